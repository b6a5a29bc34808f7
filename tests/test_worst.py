import copy
import functools
import itertools
import unittest

from leastasks import worst
from leastasks.errors import NoAsk, NoPlace, WrongPrices
from leastasks.plans import dearest_way, depth_of
from leastasks.questions import question_made
from leastasks.texts import question_read
from leastasks.trimming import row_mistold
from leastasks.worst import foe_answer, worst_plan, worst_table
from wanted import (
    MILLION, NO, SIX, YES, Case, answers_left, every_question, questions_by_step, wanted_parts, ways_by_question,
    with_answer, wrong_prices,
)

BOTH = question_made(["rain", "wind"], [0, 0, 0, 1])
PRICES_BY_COUNT = {
    1: [[1], [2], [MILLION]],
    2: [[1, 1], [3, 5], [5, 3], [MILLION, 1], [MILLION, MILLION]],
    3: [[1, 1, 1], [1, 2, 3], [9, 1, 2], [MILLION, 999999, 1], [MILLION] * 3],
    4: [[1, 1, 1, 1], [2, 1, 4, 3], [1, 10, 100, 1000], [MILLION, 1, MILLION, 500000]],
}


def some_questions(many):
    return questions_by_step(many, {3: 3, 4: 1301})


def prices_tried(many):
    return [None] + PRICES_BY_COUNT[many]


@functools.lru_cache(maxsize=None)
def wanted_number(question, prices, part):
    if len(answers_left(question, part)) == 1:
        return 0
    found = []
    for spot, price in enumerate(prices):
        if part[spot] == 2:
            behind = [wanted_number(question, prices, with_answer(part, spot, answer)) for answer in (0, 1)]
            found.append(price + max(behind))
    return min(found)


def number_at(question, prices, part):
    return wanted_number(question, tuple(prices or [1] * len(part)), part)


class Interface(Case):
    def test_the_arguments_are_called_as_told(self):
        wanted = {
            "worst_table": "(question, prices=None)",
            "worst_plan": "(question, prices=None)",
            "foe_answer": "(question, part, place, prices=None)",
        }
        self.assert_arguments(worst, wanted)


class Table(Case):
    def test_written_out(self):
        self.assert_numbers(worst_table(BOTH), (0, 0, 0, 0, 0, 1, 0, 1, 2))
        self.assert_numbers(worst_table(BOTH, [3, 5]), (0, 0, 0, 0, 0, 5, 0, 3, 8))
        self.assert_numbers(worst_table(BOTH, prices=[3, 5]), (0, 0, 0, 0, 0, 5, 0, 3, 8))
        self.assert_numbers(worst_table(question_made(["a"], [0, 1])), (0, 0, 1))
        self.assert_numbers(worst_table(question_made(["a"], [1, 0]), [MILLION]), (0, 0, MILLION))
        self.assert_numbers(worst_table(question_made(["a", "b"], [0, 1, 0, 1]), [7, 9]), (0, 0, 9, 0, 0, 9, 0, 0, 9))
        self.assert_numbers(worst_table(question_made(["a", "b"], [0, 1, 1, 0]), [7, 9]), (0, 0, 9, 0, 0, 9, 7, 7, 16))

    def test_the_least_is_not_the_cheapest_ask(self):
        # By a it is known which of the others is wanted; asking b, which costs least, leaves both to be asked.
        chosen = question_read("( any ( all a b ) ( all ( not a ) c ) )", ["a", "b", "c"])
        self.assertEqual(worst_table(chosen)[-1], 2)
        self.assertEqual(worst_table(chosen, [10, 1, 100])[-1], 110)
        self.assertEqual(worst_table(chosen, [100, 1, 10])[-1], 110)
        self.assertEqual(worst_table(chosen, [100, 5, 5])[-1], 105)

    def test_settled_from_the_beginning(self):
        for many in range(1, 7):
            for answer in (0, 1):
                question = question_made(SIX[:many], [answer] * 2 ** many)
                for prices in (None, [MILLION] * many):
                    self.assert_numbers(worst_table(question, prices), (0,) * 3 ** many)
                    self.assertEqual(worst_plan(question, prices), ("tell", answer))

    def test_part_by_part(self):
        for many in (1, 2, 3, 4):
            for question in some_questions(many):
                for prices in prices_tried(many):
                    wanted = tuple(number_at(question, prices, part) for part in wanted_parts(many))
                    self.assert_numbers(worst_table(question, prices), wanted)

    def test_prices_left_out_are_all_one(self):
        for many in (1, 2, 3, 4):
            for question in some_questions(many)[::3]:
                told = worst_table(question)
                self.assertEqual(worst_table(question, None), told)
                self.assertEqual(worst_table(question, prices=None), told)
                self.assertEqual(worst_table(question, [1] * many), told)
                self.assertEqual(worst_table(question, prices=[1] * many), told)

    def test_six_places(self):
        odd = question_read("( odd a b c d e f )", SIX)
        prices = [5, MILLION, 1, 20, 300, 4000]
        self.assert_numbers(worst_table(odd), tuple(part.count(2) for part in wanted_parts(6)))
        wanted = [sum(price for price, told in zip(prices, part) if told == 2) for part in wanted_parts(6)]
        self.assert_numbers(worst_table(odd, prices), tuple(wanted))
        self.assertEqual(worst_table(question_read("( all a b c d e f )", SIX))[-1], 6)
        self.assertEqual(worst_table(question_read("d", SIX), prices)[-1], 20)
        self.assertEqual(worst_table(question_read("( just 3 a b c d e )", SIX[:5]))[-1], 5)

    def test_no_plan_has_a_cheaper_dearest_way(self):
        for many in (1, 2, 3):
            self.assertEqual(len(ways_by_question(many)), 2 ** 2 ** many)
            for prices in prices_tried(many)[:4]:
                price_of = dict(zip(SIX, prices or [1] * many))
                for question, plans in ways_by_question(many).items():
                    least = min(max(sum(price_of[place] for place in way) for way in ways) for ways in plans)
                    self.assertEqual(worst_table(question, prices)[-1], least)

    def test_wrong_prices(self):
        for many in range(1, 7):
            for question in (
                question_made(SIX[:many], [0] * 2 ** many), question_made(SIX[:many], [0, 1] * 2 ** (many - 1)),
            ):
                for prices in wrong_prices(many):
                    self.assert_refused(WrongPrices, worst_table, question, prices)
                    self.assert_refused(WrongPrices, worst_plan, question, prices)


class Plan(Case):
    def assert_worst_plan(self, question, prices):
        plan = worst_plan(question, prices)
        self.assert_asks_till_settled(question, plan, (2,) * len(question[0]))
        self.assertIsNone(row_mistold(question, plan))
        self.assertEqual(dearest_way(plan, question[0], prices), worst_table(question, prices)[-1])

    def test_written_out(self):
        self.assertEqual(worst_plan(question_made(["rain"], [0, 1])), ("ask", "rain", NO, YES))
        self.assertEqual(worst_plan(question_made(["rain"], [1, 0]), [7]), ("ask", "rain", YES, NO))
        self.assertEqual(worst_plan(question_made(["a", "b"], [0, 1, 0, 1]), prices=[1, 2]), ("ask", "b", NO, YES))
        chosen = question_read("( any ( all a b ) ( all ( not a ) c ) )", ["a", "b", "c"])
        self.assertEqual(worst_plan(chosen), ("ask", "a", ("ask", "c", NO, YES), ("ask", "b", NO, YES)))

    def test_of_every_question_with_one_to_three_places(self):
        for many in (1, 2, 3):
            for question in every_question(SIX[:many]):
                for prices in prices_tried(many)[:4]:
                    self.assert_worst_plan(question, prices)

    def test_of_some_with_four(self):
        for question in some_questions(4):
            for prices in prices_tried(4):
                self.assert_worst_plan(question, prices)

    def test_of_six(self):
        for text in (
            "( odd a b c d e f )", "( just 3 a b c d e f )", "( ring a b c d e f )", "( joined a b c d e f )",
            "( any ( all a b c ) ( all d e f ) )", "( all a ( not a ) )", "e",
        ):
            for prices in (None, [5, MILLION, 1, 20, 300, 4000], [MILLION] * 6):
                self.assert_worst_plan(question_read(text, SIX), prices)

    def test_prices_left_out_are_all_one(self):
        for question in some_questions(3):
            depth = worst_table(question)[-1]
            for plan in (
                worst_plan(question), worst_plan(question, None), worst_plan(question, prices=None),
                worst_plan(question, [1, 1, 1]),
            ):
                self.assertEqual(depth_of(plan), depth)

    def test_places_in_another_order(self):
        for places in itertools.permutations(["c", "a", "b"]):
            for answers in itertools.product((0, 1), repeat=3):
                question = question_made(list(places), [0, 1, 1] + list(answers) + [0, 1])
                self.assert_worst_plan(question, [4, 2, 1])


class Foe(Case):
    def test_written_out(self):
        self.assertEqual(foe_answer(BOTH, (2, 2), "rain"), 1)
        self.assertEqual(foe_answer(BOTH, (2, 2), "wind"), 1)
        either = question_made(["rain", "wind"], [0, 1, 1, 1])
        self.assertEqual(foe_answer(either, (2, 2), "rain"), 0)
        self.assertEqual(foe_answer(either, (2, 2), "wind"), 0)
        # Alike, and settled already.
        self.assertEqual(foe_answer(either, (0, 2), "wind"), 1)
        self.assertEqual(foe_answer(BOTH, (0, 2), "wind"), 1)
        self.assertEqual(foe_answer(question_made(["a"], [0, 0]), (2,), "a"), 1)

    def test_prices_may_turn_the_answer(self):
        chosen = question_read("( any ( all a b ) ( all ( not a ) c ) )", ["a", "b", "c"])
        self.assertEqual(foe_answer(chosen, (2, 2, 2), "a"), 1)
        self.assertEqual(foe_answer(chosen, (2, 2, 2), "a", None), 1)
        self.assertEqual(foe_answer(chosen, (2, 2, 2), "a", [1, 1, 2]), 0)
        self.assertEqual(foe_answer(chosen, (2, 2, 2), "a", prices=[1, 2, 1]), 1)
        self.assertEqual(foe_answer(chosen, (2, 2, 2), "a", prices=[1, 2, 2]), 1)
        self.assertEqual(foe_answer(chosen, (2, 2, 2), "a", [1, MILLION - 1, MILLION]), 0)

    def test_at_every_open_spot_of_every_part(self):
        for many in (1, 2, 3, 4):
            step = {1: 1, 2: 1, 3: 4, 4: 9}[many]
            for question in some_questions(many)[::step]:
                for prices in prices_tried(many)[::2]:
                    for part in wanted_parts(many):
                        self.assert_foe_at(question, part, prices)

    def assert_foe_at(self, question, part, prices):
        for spot, place in enumerate(question[0]):
            if part[spot] != 2:
                self.assert_refused(NoAsk, foe_answer, question, part, place, prices)
                continue
            if_no, if_yes = [number_at(question, prices, with_answer(part, spot, answer)) for answer in (0, 1)]
            told = foe_answer(question, part, place, prices)
            self.assertEqual(told, 0 if if_no > if_yes else 1)
            self.assertIs(type(told), int)

    def test_six_places(self):
        question = question_read("( ring a b c d e f )", SIX)
        prices = [5, MILLION, 1, 20, 300, 4000]
        table = worst_table(question, prices)
        for part in wanted_parts(6)[::41] + [(2,) * 6]:
            for spot in [spot for spot, told in enumerate(part) if told == 2][:2]:
                if_no, if_yes = [table[wanted_parts(6).index(with_answer(part, spot, answer))] for answer in (0, 1)]
                self.assertEqual(foe_answer(question, part, SIX[spot], prices), 0 if if_no > if_yes else 1)

    def least_paid(self, question, part, prices):
        if len(answers_left(question, part)) == 1:
            return 0
        paid = []
        for spot, place in enumerate(question[0]):
            if part[spot] == 2:
                further = with_answer(part, spot, foe_answer(question, part, place, prices))
                paid.append((prices[spot] if prices else 1) + self.least_paid(question, further, prices))
        return min(paid)

    def test_whatever_is_asked_the_last_number_is_paid(self):
        for many in (1, 2, 3, 4):
            step = {1: 1, 2: 1, 3: 2, 4: 5}[many]
            for question in some_questions(many)[::step]:
                for prices in prices_tried(many)[:3]:
                    paid = self.least_paid(question, (2,) * many, prices)
                    self.assertEqual(paid, worst_table(question, prices)[-1])

    def test_a_place_that_is_not_open(self):
        for part in ((0, 2), (1, 2), (0, 0), (0, 1), (1, 0), (1, 1)):
            self.assert_refused(NoAsk, foe_answer, BOTH, part, "rain")
            self.assert_refused(NoAsk, foe_answer, BOTH, part, "rain", None)
            self.assert_refused(NoAsk, foe_answer, BOTH, part, "rain", [3, 5])

    def test_a_strange_place(self):
        for place in ("rai", "rainy", "", "Rain", "a", "0", "rain "):
            for part in wanted_parts(2):
                self.assert_refused(NoPlace, foe_answer, BOTH, part, place)
                self.assert_refused(NoPlace, foe_answer, BOTH, part, place, [3, 5])
                for prices in wrong_prices(2):
                    self.assert_refused(NoPlace, foe_answer, BOTH, part, place, prices)

    def test_wrong_prices_go_ahead_of_what_is_not_open(self):
        for many in range(1, 7):
            question = question_made(SIX[:many], [0, 1] * 2 ** (many - 1))
            for prices in wrong_prices(many):
                for told in (0, 1, 2):
                    self.assert_refused(WrongPrices, foe_answer, question, (told,) * many, "a", prices)


class HandedIn(Case):
    def test_what_is_handed_in_stays(self):
        prices = [3, 1, 2]
        question = (("a", "b", "c"), (0, 1, 1, 0, 1, 0, 1, 1))
        handed_in = [question, prices]
        before = copy.deepcopy(handed_in)
        worst_table(question, prices)
        worst_plan(question, prices)
        foe_answer(question, (2, 2, 1), "a", prices)
        self.assertEqual(handed_in, before)

    def test_a_list_changed_behind_the_call_changes_nothing(self):
        question = (("a", "b", "c"), (0, 1, 1, 0, 1, 0, 1, 1))
        prices = [3, 1, 2]
        table = worst_table(question, prices)
        plan = worst_plan(question, prices)
        kept = copy.deepcopy((table, plan))
        answer = foe_answer(question, (2, 2, 2), "b", prices)
        prices[1] = MILLION
        prices.append(1)
        self.assertEqual((table, plan), kept)
        self.assertEqual(worst_table(question, [3, 1, 2]), table)
        self.assertEqual(worst_plan(question, [3, 1, 2]), plan)
        self.assertEqual(foe_answer(question, (2, 2, 2), "b", [3, 1, 2]), answer)
        self.assertEqual(worst_table(question), worst_table(question, [1, 1, 1]))


if __name__ == "__main__":
    unittest.main()
