import copy
import functools
import unittest

from leastasks import settling
from leastasks.plans import depth_of
from leastasks.questions import denied, question_made
from leastasks.settling import settling_parts, settling_sizes, shortest_part, swayed_at
from leastasks.texts import question_read
from leastasks.worst import worst_plan
from wanted import (
    SIX, Case, answers_left, every_question, fits, wanted_parts, wanted_rows, ways_by_question, with_answer,
)

BOTH = question_made(["rain", "wind"], [0, 0, 0, 1])
ODD = question_made(["rain", "wind"], [0, 1, 1, 0])
MOST = question_read("( least 2 a b c )", ["a", "b", "c"])
OF_SIX = [
    question_read(text, SIX) for text in (
        "( ring a b c d e f )", "( joined a b c d e f )", "( just 3 a b c d e f )", "( odd a b c d e f )",
        "( any ( all a b ) ( all c d ) ( all e f ) )", "( table 0110100110010110 a b c d )", "( all f ( not f ) )",
    )
]


def questions_tried():
    found = every_question(["a"]) + every_question(["a", "b"]) + every_question(["a", "b", "c"])
    found.extend(every_question(["a", "b", "c", "d"])[::523])
    found.append(question_made(["wind", "all", "rain"], [1, 0, 0, 1, 1, 1, 0, 1]))
    return found + [question_made(SIX[:5], [number * number % 7 % 2 for number in range(32)])] + OF_SIX


@functools.lru_cache(maxsize=None)
def wanted_settled(question):
    # All settling parts, least or not, in counting order, with their answers.
    left = {part: answers_left(question, part) for part in wanted_parts(len(question[0]))}
    return {part: min(answers) for part, answers in left.items() if len(answers) == 1}


def is_least(part, settled):
    # Opened at several spots a part that doesn't settle with one of them open doesn't settle either.
    return not any(with_answer(part, spot, 2) in settled for spot in told_spots(part))


def told_spots(part):
    return {spot for spot, told in enumerate(part) if told != 2}


def wanted_shortest(question, row):
    fitted = [part for part in wanted_settled(question) if fits(row, part)]
    fewest = min(len(told_spots(part)) for part in fitted)
    return [part for part in fitted if len(told_spots(part)) == fewest][0]


def swayed_spots(question, row):
    answer_of = dict(zip(wanted_rows(len(row)), question[1]))
    others = [with_answer(row, spot, 1 - row[spot]) for spot in range(len(row))]
    return [spot for spot, other in enumerate(others) if answer_of[other] != answer_of[row]]


class Interface(Case):
    def test_the_arguments_are_called_as_told(self):
        wanted = {
            "settling_parts": "(question)",
            "shortest_part": "(question, row)",
            "settling_sizes": "(question)",
            "swayed_at": "(question, row)",
        }
        self.assert_arguments(settling, wanted)


class Parts(Case):
    def test_written_out(self):
        self.assertEqual(settling_parts(BOTH), [((0, 2), 0), ((1, 1), 1), ((2, 0), 0)])
        self.assertEqual(settling_parts(ODD), [((0, 0), 0), ((0, 1), 1), ((1, 0), 1), ((1, 1), 0)])
        self.assertEqual(settling_parts(question_made(["a"], [1, 0])), [((0,), 1), ((1,), 0)])
        self.assertEqual(settling_parts(MOST), [
            ((0, 0, 2), 0), ((0, 2, 0), 0), ((1, 1, 2), 1), ((1, 2, 1), 1), ((2, 0, 0), 0), ((2, 1, 1), 1),
        ])
        # The two that leave a open are the shortest for no row alone, but least nevertheless.
        chosen = question_read("( any ( all a b ) ( all ( not a ) c ) )", ["a", "b", "c"])
        self.assertEqual(settling_parts(chosen), [
            ((0, 2, 0), 0), ((0, 2, 1), 1), ((1, 0, 2), 0), ((1, 1, 2), 1), ((2, 0, 0), 0), ((2, 1, 1), 1),
        ])

    def test_one_answer_for_all_rows(self):
        for many in range(1, 7):
            for answer in (0, 1):
                question = question_made(SIX[:many], [answer] * 2 ** many)
                self.assertEqual(settling_parts(question), [((2,) * many, answer)])

    def test_against_all_parts(self):
        for question in questions_tried():
            settled = wanted_settled(question)
            wanted = [(part, answer) for part, answer in settled.items() if is_least(part, settled)]
            told = settling_parts(question)
            self.assertEqual(told, wanted)
            self.assertIs(type(told), list)
            for pair in told:
                self.assertEqual([type(pair), type(pair[0]), type(pair[1])], [tuple, tuple, int])

    def test_each_row_fits_one_of_its_answer(self):
        for question in questions_tried():
            least = settling_parts(question)
            for row, answer in zip(wanted_rows(len(question[0])), question[1]):
                self.assertEqual({told for part, told in least if fits(row, part)}, {answer})

    def test_one_for_no_and_one_for_yes_tell_some_place_otherwise(self):
        for question in questions_tried():
            least = settling_parts(question)
            for if_no in [part for part, answer in least if answer == 0]:
                for if_yes in [part for part, answer in least if answer == 1]:
                    self.assertTrue(any({no, yes} == {0, 1} for no, yes in zip(if_no, if_yes)))


class Shortest(Case):
    def test_written_out(self):
        self.assertEqual(shortest_part(BOTH, (0, 1)), (0, 2))
        self.assertEqual(shortest_part(BOTH, (1, 0)), (2, 0))
        self.assertEqual(shortest_part(BOTH, (1, 1)), (1, 1))
        self.assertEqual(shortest_part(ODD, (1, 0)), (1, 0))

    def test_of_several_the_first(self):
        self.assertEqual(shortest_part(BOTH, (0, 0)), (0, 2))
        self.assertEqual(shortest_part(MOST, (0, 0, 0)), (0, 0, 2))
        self.assertEqual(shortest_part(MOST, (1, 1, 1)), (1, 1, 2))
        self.assertEqual(shortest_part(MOST, (1, 0, 0)), (2, 0, 0))
        self.assertEqual(shortest_part(MOST, (0, 1, 0)), (0, 2, 0))
        self.assertEqual(shortest_part(question_read("( any a ( all b c ) )", SIX[:3]), (1, 1, 1)), (1, 2, 2))

    def test_fewer_go_ahead_of_the_first(self):
        self.assertEqual(shortest_part(question_read("( any ( all a b ) c )", SIX[:3]), (1, 1, 1)), (2, 2, 1))
        self.assertEqual(shortest_part(question_read("( any ( all a b ) c )", SIX[:3]), (1, 1, 0)), (1, 1, 2))

    def test_one_answer_for_all_rows(self):
        for many in range(1, 7):
            for row in wanted_rows(many):
                self.assertEqual(shortest_part(question_made(SIX[:many], [1] * 2 ** many), row), (2,) * many)

    def test_of_every_row(self):
        for question in questions_tried():
            for row in wanted_rows(len(question[0])):
                told = shortest_part(question, row)
                self.assertEqual(told, wanted_shortest(question, row))
                self.assertIs(type(told), tuple)


class Sizes(Case):
    def test_written_out(self):
        for question, wanted in (
            (BOTH, (1, 2)),
            (denied(BOTH), (2, 1)),
            (ODD, (2, 2)),
            (MOST, (2, 2)),
            (question_read("( any a b c d e f )", SIX), (6, 1)),
            (question_read("( all a b c d e f )", SIX), (1, 6)),
            (question_read("( any ( all a b ) ( all c d ) ( all e f ) )", SIX), (3, 2)),
            (question_read("e", SIX), (1, 1)),
            (question_read("( joined a b c d e f )", SIX), (4, 3)),
        ):
            told = settling_sizes(question)
            self.assertEqual(told, wanted)
            self.assertEqual([type(told), type(told[0]), type(told[1])], [tuple, int, int])

    def test_one_answer_for_all_rows(self):
        for many in range(1, 7):
            for answer in (0, 1):
                question = question_made(SIX[:many], [answer] * 2 ** many)
                self.assertEqual(settling_sizes(question), (0, 0))

    def test_the_greatest_of_all_rows(self):
        for question in questions_tried():
            sizes = {0: [0], 1: [0]}
            for row, answer in zip(wanted_rows(len(question[0])), question[1]):
                sizes[answer].append(len(told_spots(wanted_shortest(question, row))))
            self.assertEqual(settling_sizes(question), (max(sizes[0]), max(sizes[1])))

    def test_no_plan_is_less_deep_than_the_greatest_size(self):
        for many in (1, 2, 3):
            self.assertEqual(len(ways_by_question(many)), 2 ** 2 ** many)
            for question, plans in ways_by_question(many).items():
                depth = min(max(len(way) for way in ways) for ways in plans)
                self.assertGreaterEqual(depth, max(settling_sizes(question)))

    def test_the_worst_plan_lies_between_the_greatest_size_and_the_product(self):
        for question in questions_tried():
            for_no, for_yes = settling_sizes(question)
            for plan in (worst_plan(question), worst_plan(question, None)):
                self.assertGreaterEqual(depth_of(plan), max(for_no, for_yes))
                self.assertLessEqual(depth_of(plan), for_no * for_yes)


class Swayed(Case):
    def test_written_out(self):
        self.assertEqual(swayed_at(BOTH, (0, 0)), [])
        self.assertEqual(swayed_at(BOTH, (0, 1)), ["rain"])
        self.assertEqual(swayed_at(BOTH, (1, 0)), ["wind"])
        self.assertEqual(swayed_at(BOTH, (1, 1)), ["rain", "wind"])
        self.assertEqual(swayed_at(MOST, (0, 1, 1)), ["b", "c"])
        self.assertEqual(swayed_at(MOST, (1, 1, 1)), [])
        self.assertEqual(swayed_at(question_read("( odd a b c d e f )", SIX), (0, 1, 1, 0, 1, 0)), SIX)
        backwards = question_made(["wind", "rain"], [0, 0, 0, 1])
        self.assertEqual(swayed_at(backwards, (1, 1)), ["wind", "rain"])

    def test_of_every_row(self):
        for question in questions_tried():
            for row in wanted_rows(len(question[0])):
                told = swayed_at(question, row)
                self.assertEqual(told, [question[0][spot] for spot in swayed_spots(question, row)])
                self.assertIs(type(told), list)

    def test_each_settling_part_that_the_row_fits_tells_all_of_them(self):
        for question in questions_tried():
            for row in wanted_rows(len(question[0])):
                spots = {question[0].index(place) for place in swayed_at(question, row)}
                for part in wanted_settled(question):
                    if fits(row, part):
                        self.assertLessEqual(spots, told_spots(part))


class HandedIn(Case):
    def test_what_is_handed_in_stays(self):
        handed_in = [copy.deepcopy(MOST), (1, 0, 1)]
        before = copy.deepcopy(handed_in)
        settling_parts(handed_in[0])
        shortest_part(handed_in[0], handed_in[1])
        settling_sizes(handed_in[0])
        swayed_at(handed_in[0], handed_in[1])
        self.assertEqual(handed_in, before)

    def test_told_lists_may_be_changed(self):
        for function, arguments in (
            (settling_parts, (MOST,)), (settling_parts, (question_made(["a"], [1, 1]),)),
            (swayed_at, (MOST, (0, 1, 1))), (swayed_at, (MOST, (1, 1, 1))),
        ):
            first = function(*arguments)
            kept = function(*arguments)
            wanted = copy.deepcopy(first)
            first.append("more")
            first[0] = "changed"
            self.assertEqual(kept, wanted)
            self.assertEqual(function(*arguments), wanted)
            first.clear()
            self.assertEqual(function(*arguments), wanted)
        self.assertEqual(MOST[0], ("a", "b", "c"))
        self.assertEqual(shortest_part(MOST, (0, 1, 1)), (2, 1, 1))


if __name__ == "__main__":
    unittest.main()
