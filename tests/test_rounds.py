import copy
import functools
import unittest

from leastasks import rounds
from leastasks.errors import WrongSize
from leastasks.questions import question_made
from leastasks.rounds import round_table, round_to_ask
from leastasks.texts import question_read
from leastasks.worst import worst_table
from wanted import (
    SIX, Case, answers_left, every_question, every_round, parts_behind, questions_by_step, wanted_parts,
)

BOTH = question_made(["rain", "wind"], [0, 0, 0, 1])
CHOSEN = question_read("( any ( all a b ) ( all ( not a ) c ) )", ["a", "b", "c"])
AT_ONCE = range(1, 7)
WRONG_AT_ONCE = (0, -1, -2, -6, -10 ** 12, 7, 8, 64, 10 ** 12)


def some_questions(many):
    return questions_by_step(many, {3: 5, 4: 1301})


@functools.lru_cache(maxsize=None)
def wanted_number(question, at_once, part):
    if len(answers_left(question, part)) == 1:
        return 0
    return 1 + min(greatest_behind(question, at_once, part, spots) for spots in every_round(part, at_once))


def greatest_behind(question, at_once, part, spots):
    return max(wanted_number(question, at_once, behind) for behind in parts_behind(part, spots))


class RoundCase(Case):
    def assert_table(self, question, at_once):
        wanted = tuple(wanted_number(question, at_once, part) for part in wanted_parts(len(question[0])))
        self.assert_numbers(round_table(question, at_once), wanted)

    def assert_round(self, question, part, at_once):
        asked = round_to_ask(question, part, at_once)
        self.assertIs(type(asked), list)
        if len(answers_left(question, part)) == 1:
            self.assertEqual(asked, [])
            return
        spots = [question[0].index(place) for place in asked]
        self.assertEqual(len(set(spots)), len(spots))
        self.assertEqual({part[spot] for spot in spots}, {2})
        self.assertLessEqual(len(spots), at_once)
        number = wanted_number(question, at_once, part)
        self.assertLess(greatest_behind(question, at_once, part, spots), number)


class Interface(Case):
    def test_the_arguments_are_called_as_told(self):
        self.assert_arguments(rounds, {
            "round_table": "(question, at_once)",
            "round_to_ask": "(question, part, at_once)",
        })


class Table(RoundCase):
    def test_written_out(self):
        self.assert_numbers(round_table(BOTH, 1), (0, 0, 0, 0, 0, 1, 0, 1, 2))
        for at_once in (2, 3, 4, 5, 6):
            self.assert_numbers(round_table(BOTH, at_once), (0, 0, 0, 0, 0, 1, 0, 1, 1))
        self.assert_numbers(round_table(question_made(["a"], [0, 1]), 1), (0, 0, 1))
        self.assert_numbers(round_table(question_made(["a"], [1, 0]), 6), (0, 0, 1))
        self.assertEqual([round_table(CHOSEN, at_once)[-1] for at_once in AT_ONCE], [2, 2, 1, 1, 1, 1])

    def test_settled_from_the_beginning(self):
        for many in range(1, 7):
            for answer in (0, 1):
                question = question_made(SIX[:many], [answer] * 2 ** many)
                for at_once in (1, 2, 6):
                    self.assert_numbers(round_table(question, at_once), (0,) * 3 ** many)
                    self.assertEqual(round_to_ask(question, (2,) * many, at_once), [])

    def test_part_by_part(self):
        for many in (1, 2, 3, 4):
            for question in some_questions(many):
                for at_once in AT_ONCE:
                    self.assert_table(question, at_once)

    def test_one_at_once_is_least_at_worst(self):
        for many in (1, 2, 3, 4):
            for question in some_questions(many):
                self.assertEqual(round_table(question, 1), worst_table(question))

    def test_six_places(self):
        # Each open place counts in odd, so in a round just as many of them go as are allowed.
        odd = question_read("( odd a b c d e f )", SIX)
        ring = question_read("( ring a b c d e f )", SIX)
        for at_once in AT_ONCE:
            wanted = tuple(-(-part.count(2) // at_once) for part in wanted_parts(6))
            self.assert_numbers(round_table(odd, at_once), wanted)
        self.assertEqual([round_table(ring, at_once)[-1] for at_once in AT_ONCE], [6, 3, 2, 2, 2, 1])
        self.assert_table(ring, 2)
        self.assert_table(ring, 5)

    def test_wrong_size(self):
        for many in range(1, 7):
            for answers in ([1] * 2 ** many, [0, 1] * 2 ** (many - 1)):
                question = question_made(SIX[:many], answers)
                for at_once in WRONG_AT_ONCE:
                    self.assert_refused(WrongSize, round_table, question, at_once)


class ToAsk(RoundCase):
    def test_written_out(self):
        self.assertEqual(sorted(round_to_ask(BOTH, (2, 2), 2)), ["rain", "wind"])
        self.assertEqual(round_to_ask(BOTH, (1, 2), 2), ["wind"])
        self.assertEqual(round_to_ask(BOTH, (2, 1), 1), ["rain"])
        self.assertEqual(round_to_ask(BOTH, (0, 2), 6), [])
        self.assertEqual(round_to_ask(question_made(["wind", "rain"], [0, 1, 0, 1]), (2, 2), 1), ["rain"])
        self.assertEqual(round_to_ask(CHOSEN, (2, 2, 2), 1), ["a"])
        self.assertEqual(sorted(round_to_ask(CHOSEN, (2, 2, 2), 3)), ["a", "b", "c"])
        self.assertIn("a", round_to_ask(CHOSEN, (2, 2, 2), 2))

    def test_at_every_part(self):
        for many in (1, 2, 3, 4):
            step = {1: 1, 2: 1, 3: 3, 4: 9}[many]
            for question in some_questions(many)[::step]:
                for part in wanted_parts(many):
                    for at_once in AT_ONCE:
                        self.assert_round(question, part, at_once)

    def test_where_it_is_settled(self):
        for many in (1, 2, 3, 4):
            for question in some_questions(many)[::7]:
                for part in wanted_parts(many):
                    if len(answers_left(question, part)) == 1:
                        self.assertEqual([round_to_ask(question, part, at_once) for at_once in AT_ONCE], [[]] * 6)

    def test_six_places(self):
        question = question_read("( ring a b c d e f )", SIX)
        for at_once in (2, 5):
            for part in wanted_parts(6)[::61] + [(2,) * 6]:
                self.assert_round(question, part, at_once)

    def test_wrong_size(self):
        for many in range(1, 7):
            question = question_made(SIX[:many], [0, 1] * 2 ** (many - 1))
            for at_once in WRONG_AT_ONCE:
                for told in (0, 1, 2):
                    self.assert_refused(WrongSize, round_to_ask, question, (told,) * many, at_once)
            for at_once in (0, 7):
                self.assert_refused(WrongSize, round_to_ask, (question[0], (0,) * 2 ** many), (2,) * many, at_once)


class Whole(RoundCase):
    def rounds_played(self, question, part, at_once):
        # The most rounds over all answers.
        if len(answers_left(question, part)) == 1:
            return 0
        spots = [question[0].index(place) for place in round_to_ask(question, part, at_once)]
        return 1 + max(self.rounds_played(question, behind, at_once) for behind in parts_behind(part, spots))

    def test_told_rounds_settle_in_as_many_as_the_table_tells(self):
        for many in (1, 2, 3, 4):
            step = {1: 1, 2: 1, 3: 1, 4: 5}[many]
            for question in some_questions(many)[::step]:
                for at_once in AT_ONCE[:many + 1]:
                    played = self.rounds_played(question, (2,) * many, at_once)
                    self.assertEqual(played, round_table(question, at_once)[-1])

    def test_whatever_is_asked_some_answer_leaves_at_most_one_less(self):
        for question in every_question(["a", "b"]) + every_question(["a", "b", "c"])[::5]:
            many = len(question[0])
            for at_once in AT_ONCE[:many + 1]:
                numbers = dict(zip(wanted_parts(many), round_table(question, at_once)))
                for part, number in numbers.items():
                    for spots in every_round(part, at_once):
                        left = max(numbers[behind] for behind in parts_behind(part, spots))
                        self.assertGreaterEqual(left, number - 1)


class HandedIn(Case):
    def test_what_is_handed_in_stays(self):
        handed_in = [copy.deepcopy(CHOSEN), (2, 1, 2)]
        before = copy.deepcopy(handed_in)
        round_table(handed_in[0], 2)
        round_to_ask(handed_in[0], handed_in[1], 2)
        self.assertEqual(handed_in, before)

    def test_told_lists_may_be_changed(self):
        for part, at_once in (((2, 2, 2), 1), ((2, 2, 2), 3), ((0, 2, 0), 3), ((0, 0, 0), 1)):
            first = round_to_ask(CHOSEN, part, at_once)
            kept = round_to_ask(CHOSEN, part, at_once)
            wanted = list(first)
            first.append("more")
            first[0] = "changed"
            self.assertEqual(kept, wanted)
            self.assertEqual(round_to_ask(CHOSEN, part, at_once), wanted)
            first.clear()
            self.assertEqual(round_to_ask(CHOSEN, part, at_once), wanted)
        self.assertEqual(CHOSEN[0], ("a", "b", "c"))


if __name__ == "__main__":
    unittest.main()
