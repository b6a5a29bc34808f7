import copy
import functools
import itertools
import unittest

from leastasks import lies
from leastasks.errors import NoPlace, WrongSize
from leastasks.lies import lie_table, next_ask, rows_left
from leastasks.questions import question_made
from leastasks.texts import question_read
from leastasks.worst import worst_table
from wanted import SIX, Case, every_question, questions_by_step, wanted_rows

BOTH = question_made(["rain", "wind"], [0, 0, 0, 1])
ODD = question_read("( odd a b c )", ["a", "b", "c"])
CHOSEN = question_read("( any ( all a b ) ( all ( not a ) c ) )", ["a", "b", "c"])
LIES = (0, 1, 2)
WRONG_LIES = (-1, -2, -3, -10 ** 12, 3, 4, 8, 10 ** 12)


def some_questions(many):
    return questions_by_step(many, {3: 17})


def every_told(places, longest):
    asks = [(place, answer) for place in places for answer in (0, 1)]
    return [list(told) for size in range(longest + 1) for told in itertools.product(asks, repeat=size)]


def lies_of(question, row, told):
    numbers = dict(zip(question[0], row))
    return sum(1 for place, answer in told if numbers[place] != answer)


def wanted_left(question, allowed, told):
    return [row for row in wanted_rows(len(question[0])) if lies_of(question, row, told) <= allowed]


def state_of(question, allowed, told):
    counted = [lies_of(question, row, told) for row in wanted_rows(len(question[0]))]
    return tuple(-1 if number > allowed else number for number in counted)


@functools.lru_cache(maxsize=None)
def states_behind(state, spot, allowed):
    found = []
    for answer in (0, 1):
        counted = list(state)
        for number, row in enumerate(wanted_rows(len(state).bit_length() - 1)):
            if row[spot] != answer and counted[number] != -1:
                counted[number] += 1
        found.append(tuple(-1 if number > allowed else number for number in counted))
    return found


def answers_of_state(question, state):
    return {answer for answer, number in zip(question[1], state) if number != -1}


def unlike_spots(question, state):
    rows = [row for row, number in zip(wanted_rows(len(question[0])), state) if number != -1]
    return [spot for spot in range(len(question[0])) if len({row[spot] for row in rows}) == 2]


@functools.lru_cache(maxsize=None)
def wanted_number(question, allowed, state):
    if len(answers_of_state(question, state)) <= 1:
        return 0
    return 1 + min(greatest_behind(question, allowed, state, spot) for spot in unlike_spots(question, state))


def greatest_behind(question, allowed, state, spot):
    return max(wanted_number(question, allowed, behind) for behind in states_behind(state, spot, allowed))


def wanted_states(question, allowed):
    waiting = [(0,) * len(question[1])]
    found = set(waiting)
    while waiting:
        state = waiting.pop()
        if len(answers_of_state(question, state)) == 2:
            for spot in unlike_spots(question, state):
                fresh = set(states_behind(state, spot, allowed)) - found
                found |= fresh
                waiting.extend(fresh)
    return found


def told_by_state(question, allowed):
    # A list of what was told for each state that any asks lead to.
    found = {(0,) * len(question[1]): []}
    waiting = list(found)
    while waiting:
        state = waiting.pop(0)
        for spot, place in enumerate(question[0]):
            for answer, behind in enumerate(states_behind(state, spot, allowed)):
                if behind not in found:
                    found[behind] = found[state] + [(place, answer)]
                    waiting.append(behind)
    return list(found.values())


class Interface(Case):
    def test_the_arguments_are_called_as_told(self):
        self.assert_arguments(lies, {
            "rows_left": "(question, lies, told)",
            "lie_table": "(question, lies)",
            "next_ask": "(question, lies, told)",
        })


class Left(Case):
    def test_written_out(self):
        self.assertEqual(rows_left(BOTH, 0, []), [(0, 0), (0, 1), (1, 0), (1, 1)])
        self.assertEqual(rows_left(BOTH, 0, [("wind", 1)]), [(0, 1), (1, 1)])
        self.assertEqual(rows_left(BOTH, 1, [("wind", 1)]), [(0, 0), (0, 1), (1, 0), (1, 1)])
        self.assertEqual(rows_left(BOTH, 1, [("wind", 1), ("rain", 0)]), [(0, 0), (0, 1), (1, 1)])
        self.assertEqual(rows_left(BOTH, 2, [("wind", 1), ("rain", 0), ("wind", 1)]), [(0, 0), (0, 1), (1, 1)])
        self.assertEqual(rows_left(question_made(["a"], [1, 1]), 0, [("a", 0)]), [(0,)])

    def test_places_asked_again_and_again(self):
        for allowed in LIES:
            for times in range(12):
                left = [(0,), (1,)] if times <= allowed else [(1,)]
                self.assertEqual(rows_left(question_made(["a"], [0, 1]), allowed, [("a", 1)] * times), left)
        told = [("wind", 0), ("wind", 1), ("wind", 0), ("rain", 1), ("wind", 1)]
        self.assertEqual(rows_left(BOTH, 2, told), [(1, 0), (1, 1)])
        self.assertEqual(rows_left(BOTH, 2, told + [("wind", 1)]), [(1, 1)])

    def test_no_row_left(self):
        self.assertEqual(rows_left(BOTH, 0, [("rain", 1), ("rain", 0)]), [])
        self.assertEqual(rows_left(BOTH, 1, [("rain", 1), ("rain", 0), ("wind", 1), ("wind", 0)]), [])
        self.assertEqual(rows_left(ODD, 2, [("b", 1), ("b", 0)] * 3), [])
        self.assertEqual(rows_left(ODD, 2, [("b", 1), ("b", 0)] * 50), [])

    def test_against_every_row(self):
        for question, longest in ((question_made(["a"], [0, 1]), 6), (BOTH, 5), (ODD, 4)):
            for told in every_told(question[0], longest):
                for allowed in LIES:
                    left = rows_left(question, allowed, told)
                    self.assertEqual(left, wanted_left(question, allowed, told))
                    self.assertIs(type(left), list)
                    self.assertTrue(all(type(row) is tuple for row in left))

    def test_places_in_another_order(self):
        question = question_made(["c", "a", "b"], [0, 0, 1, 0, 1, 0, 1, 1])
        for told in every_told(["a", "b", "c"], 3):
            self.assertEqual(rows_left(question, 1, told), wanted_left(question, 1, told))


class Table(Case):
    def test_written_out(self):
        alone = question_made(["a"], [0, 1])
        self.assertEqual(lie_table(alone, 0), {(0, 0): 1, (0, -1): 0, (-1, 0): 0})
        self.assertEqual(lie_table(alone, 1), {
            (0, 0): 3, (0, 1): 2, (1, 0): 2, (1, 1): 1, (0, -1): 0, (-1, 0): 0, (1, -1): 0, (-1, 1): 0,
        })
        self.assertEqual(lie_table(BOTH, 0), {
            (0, 0, 0, 0): 2, (0, 0, -1, -1): 0, (-1, -1, 0, 0): 1, (0, -1, 0, -1): 0, (-1, 0, -1, 0): 1,
            (-1, -1, 0, -1): 0, (-1, -1, -1, 0): 0, (-1, 0, -1, -1): 0,
        })
        self.assertEqual([lie_table(alone, allowed)[(0, 0)] for allowed in LIES], [1, 3, 5])
        self.assertEqual([lie_table(ODD, allowed)[(0,) * 8] for allowed in LIES], [3, 7, 11])

    def test_one_answer_for_all_rows(self):
        for many in (1, 2, 3):
            for answer in (0, 1):
                for allowed in LIES:
                    question = question_made(SIX[:many], [answer] * 2 ** many)
                    self.assertEqual(lie_table(question, allowed), {(0,) * 2 ** many: 0})

    def test_all_states_and_no_others_with_their_numbers(self):
        for many in (1, 2, 3):
            for question in some_questions(many):
                for allowed in LIES:
                    states = wanted_states(question, allowed)
                    table = lie_table(question, allowed)
                    self.assertIs(type(table), dict)
                    self.assertEqual(table, {state: wanted_number(question, allowed, state) for state in states})
                    self.assertEqual({type(state) for state in table}, {tuple})
                    self.assertEqual({type(number) for state in table for number in state}, {int})
                    self.assertEqual({type(number) for number in table.values()}, {int})

    def test_without_lies_it_is_least_at_worst(self):
        for many in (1, 2, 3):
            for question in every_question(SIX[:many]):
                self.assertEqual(lie_table(question, 0)[(0,) * 2 ** many], worst_table(question)[-1])

    def test_places_in_another_order(self):
        question = question_made(["c", "a", "b"], [0, 0, 1, 0, 1, 0, 1, 1])
        table = lie_table(question, 1)
        self.assertEqual(table, {state: wanted_number(question, 1, state) for state in wanted_states(question, 1)})


class Next(Case):
    def assert_next(self, question, allowed, told):
        state = state_of(question, allowed, told)
        place = next_ask(question, allowed, told)
        number = wanted_number(question, allowed, state)
        if number == 0:
            self.assertIsNone(place)
            return
        self.assertIs(type(place), str)
        self.assertLess(greatest_behind(question, allowed, state, question[0].index(place)), number)

    def test_written_out(self):
        self.assertEqual(next_ask(question_made(["a"], [0, 1]), 0, []), "a")
        self.assertEqual(next_ask(question_made(["a"], [0, 1]), 1, [("a", 1)]), "a")
        self.assertEqual(next_ask(question_made(["wind", "rain"], [0, 1, 0, 1]), 0, [("wind", 0)]), "rain")
        self.assertEqual(next_ask(BOTH, 0, [("wind", 1)]), "rain")
        self.assertEqual(next_ask(BOTH, 0, [("rain", 1)]), "wind")
        self.assertEqual(next_ask(CHOSEN, 0, []), "a")

    def test_settled_or_no_row_left(self):
        self.assertIsNone(next_ask(BOTH, 0, [("wind", 0)]))
        self.assertIsNone(next_ask(BOTH, 1, [("wind", 0), ("wind", 0)]))
        self.assertIsNone(next_ask(BOTH, 2, [("wind", 0), ("wind", 0), ("wind", 0)]))
        self.assertIsNotNone(next_ask(BOTH, 2, [("wind", 0), ("wind", 0)]))
        self.assertIsNone(next_ask(BOTH, 0, [("wind", 0), ("wind", 1)]))
        self.assertIsNone(next_ask(BOTH, 1, [("rain", 0), ("rain", 1), ("wind", 0), ("wind", 1)]))
        for allowed in LIES:
            self.assertIsNone(next_ask(question_made(["a", "b"], [1, 1, 1, 1]), allowed, []))

    def test_at_every_state_that_any_asks_lead_to(self):
        for many in (1, 2, 3):
            for question in some_questions(many)[::3]:
                for allowed in LIES:
                    for told in told_by_state(question, allowed)[::13 if many == 3 else 1]:
                        self.assert_next(question, allowed, told)

    def test_behind_whatever_was_told(self):
        for question, longest in (
            (question_made(["a"], [1, 0]), 6), (BOTH, 5), (question_made(["b", "a"], [0, 1, 1, 0]), 4), (CHOSEN, 3),
        ):
            for told in every_told(question[0], longest):
                for allowed in LIES:
                    self.assert_next(question, allowed, told)

    def test_at_states_that_are_not_in_the_table(self):
        # Asked on where it was settled, or so that no row is left; all that are unsettled are in the table.
        for question in (BOTH, question_made(["rain", "wind"], [1, 1, 1, 1]), CHOSEN):
            for allowed in LIES:
                table = lie_table(question, allowed)
                beside = [
                    told for told in told_by_state(question, allowed) if state_of(question, allowed, told) not in table
                ]
                self.assertTrue(beside)
                for told in beside:
                    self.assertIsNone(next_ask(question, allowed, told))
        self.assertIsNone(next_ask(BOTH, 0, [("rain", 0), ("wind", 0)]))
        self.assertNotIn((0, -1, -1, -1), lie_table(BOTH, 0))


class Whole(Case):
    def asks_played(self, question, allowed, told):
        # The most asks over all answers that some row may give with the lies that it has left.
        left = wanted_left(question, allowed, told)
        place = next_ask(question, allowed, told)
        if place is None:
            answers = {question[1][wanted_rows(len(row)).index(row)] for row in left}
            self.assertEqual(len(answers), 1)
            return 0
        further = [told + [(place, answer)] for answer in (0, 1)]
        may_be = [behind for behind in further if wanted_left(question, allowed, behind)]
        return 1 + max(self.asks_played(question, allowed, behind) for behind in may_be)

    def assert_played(self, question, allowed):
        number = lie_table(question, allowed)[(0,) * len(question[1])]
        self.assertEqual(self.asks_played(question, allowed, []), number)

    def test_settled_in_as_many_asks_as_the_table_tells(self):
        for many in (1, 2):
            for question in every_question(SIX[:many]):
                for allowed in LIES:
                    self.assert_played(question, allowed)

    def test_of_three_places(self):
        for question in every_question(SIX[:3])[::7]:
            self.assert_played(question, 0)
        for question in every_question(SIX[:3])[::37] + [ODD, CHOSEN]:
            self.assert_played(question, 1)

    def test_of_three_places_with_two_lies(self):
        # Many ways of answering lead to one state; from each state that is met it is asked on only once.
        for question in every_question(SIX[:3])[::51] + [ODD, CHOSEN]:
            self.assertEqual(self.asks_by_state(question, [], {}), lie_table(question, 2)[(0,) * 8])

    def asks_by_state(self, question, told, asks_from):
        state = state_of(question, 2, told)
        if state not in asks_from:
            place = next_ask(question, 2, told)
            if place is None:
                self.assertLessEqual(len(answers_of_state(question, state)), 1)
                asks_from[state] = 0
            else:
                further = [self.asks_by_state(question, told + [(place, answer)], asks_from) for answer in (0, 1)]
                asks_from[state] = 1 + max(further)
        return asks_from[state]

    def test_every_row_with_lies_wherever_they_are_let(self):
        # Two lies of eleven asks at most, the first at one step and the second at another.
        for question in (ODD, CHOSEN):
            number = lie_table(question, 2)[(0,) * 8]
            for row in wanted_rows(3)[::3]:
                for first, second in list(itertools.combinations(range(number), 2))[::7] + [(number, number)]:
                    told = self.play_with_lies(question, row, (first, second))
                    self.assertLessEqual(len(told), number)
                    left = {question[1][wanted_rows(3).index(other)] for other in rows_left(question, 2, told)}
                    self.assertEqual(left, {question[1][wanted_rows(3).index(row)]})

    def play_with_lies(self, question, row, lied):
        told = []
        place = next_ask(question, 2, told)
        while place is not None:
            number = row[question[0].index(place)]
            told.append((place, 1 - number if len(told) in lied else number))
            place = next_ask(question, 2, told)
        return told

    def test_whatever_is_asked_some_answer_leaves_at_most_one_less(self):
        for many in (1, 2, 3):
            for question in some_questions(many):
                for allowed in LIES:
                    table = lie_table(question, allowed)
                    for state, number in table.items():
                        self.assert_at_most_one_less(table, state, number, many, allowed)

    def assert_at_most_one_less(self, table, state, number, many, allowed):
        # Where all rows left have one number at a place, one of its answers leaves the state as it was.
        if number > 0:
            for spot in range(many):
                left = [table[behind] for behind in states_behind(state, spot, allowed) if behind in table]
                self.assertGreaterEqual(max(left), number - 1)


class Refused(Case):
    def assert_both_refused(self, error, question, allowed, told):
        self.assert_refused(error, rows_left, question, allowed, told)
        self.assert_refused(error, next_ask, question, allowed, told)

    def assert_wrong_size(self, many, allowed):
        for answers in ([1] * 2 ** many, [0, 1] * 2 ** (many - 1)):
            question = question_made(SIX[:many], answers)
            self.assert_refused(WrongSize, lie_table, question, allowed)
            # Strange places among what was told don't come first.
            for told in ([], [("a", 1)], [("g", 1)], [("a", 1), ("", 0)]):
                self.assert_both_refused(WrongSize, question, allowed, told)

    def test_wrong_lies(self):
        for many in range(1, 7):
            for allowed in WRONG_LIES:
                self.assert_wrong_size(many, allowed)

    def test_too_many_places(self):
        for many in (4, 5, 6):
            for allowed in LIES:
                self.assert_wrong_size(many, allowed)

    def test_strange_places(self):
        for question in (BOTH, question_made(["rain"], [0, 0]), question_made(["rain", "b", "c"], [0, 1] * 4)):
            for place in ("a", "d", "Rain", "rai", "rain ", ""):
                for allowed in LIES:
                    for told in (
                        [(place, 1)], [("rain", 0), (place, 0)], [(place, 0), ("rain", 1)],
                        [("rain", 1), ("rain", 0)] * 3 + [(place, 1)],
                    ):
                        self.assert_both_refused(NoPlace, question, allowed, told)


class HandedIn(Case):
    def test_what_is_handed_in_stays(self):
        handed_in = [copy.deepcopy(CHOSEN), [("a", 1), ("b", 0), ("a", 0)]]
        before = copy.deepcopy(handed_in)
        rows_left(handed_in[0], 1, handed_in[1])
        lie_table(handed_in[0], 1)
        next_ask(handed_in[0], 1, handed_in[1])
        next_ask(handed_in[0], 0, handed_in[1])
        self.assertEqual(handed_in, before)

    def test_a_list_changed_behind_the_call_changes_nothing(self):
        told = [("a", 1)]
        left = rows_left(CHOSEN, 0, told)
        place = next_ask(CHOSEN, 0, told)
        told.append(("b", 1))
        self.assertEqual(left, [(1, 0, 0), (1, 0, 1), (1, 1, 0), (1, 1, 1)])
        told.clear()
        self.assertEqual(rows_left(CHOSEN, 0, [("a", 1)]), left)
        self.assertEqual(next_ask(CHOSEN, 0, [("a", 1)]), place)

    def test_told_lists_and_dicts_may_be_changed(self):
        left = rows_left(ODD, 0, [])
        left.clear()
        self.assertEqual(rows_left(ODD, 0, []), wanted_rows(3))
        for allowed in LIES:
            table = lie_table(ODD, allowed)
            kept = lie_table(ODD, allowed)
            wanted = dict(table)
            place = next_ask(ODD, allowed, [])
            for state in list(table):
                table[state] = 1 - table[state]
            self.assertEqual(kept, wanted)
            self.assertEqual(lie_table(ODD, allowed), wanted)
            table.clear()
            self.assertEqual(lie_table(ODD, allowed), wanted)
            self.assertEqual(next_ask(ODD, allowed, []), place)
            self.assertEqual(kept, wanted)


if __name__ == "__main__":
    unittest.main()
