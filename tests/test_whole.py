import copy
import functools
import math
import unittest

from leastasks import whole
from leastasks.errors import WrongPrices, WrongWeights
from leastasks.plans import cost_on_whole
from leastasks.questions import question_made
from leastasks.texts import question_read
from leastasks.trimming import row_mistold
from leastasks.whole import mean_price, whole_plan, whole_table
from wanted import (
    MILLION, NO, SIX, YES, Case, answers_left, every_question, questions_by_step, row_numbers, wanted_parts,
    ways_by_question, with_answer, wrong_prices, wrong_weights,
)

BOTH = question_made(["rain", "wind"], [0, 0, 0, 1])
PRICES_BY_COUNT = {
    1: [[1], [MILLION]],
    2: [[1, 1], [3, 5], [MILLION, 1]],
    3: [[1, 1, 1], [9, 1, 2], [MILLION, 999999, 1]],
    4: [[1, 1, 1, 1], [2, 1, 4, 3], [MILLION, 1, MILLION, 500000]],
}
WEIGHTS_BY_COUNT = {
    1: [[1, 1], [0, 1], [3, 0], [MILLION, 7]],
    2: [[1, 1, 1, 1], [0, 0, 1, 0], [5, 0, 1, 0], [1, 2, 3, MILLION], [MILLION] * 4],
    3: [[1] * 8, [0, 3, 0, 1, 7, 0, 2, 0], [0, 0, 0, 0, 0, 0, 0, 1], [MILLION, 1, 0, 5, 999999, 2, 2, 9]],
    4: [[1] * 16, [(number * 5 + 3) % 7 for number in range(16)], [0] * 9 + [2] + [0] * 6, [MILLION] * 15 + [0]],
}


def some_questions(many):
    return questions_by_step(many, {3: 5, 4: 2221})


def prices_tried(many):
    return [None] + PRICES_BY_COUNT[many]


@functools.lru_cache(maxsize=None)
def wanted_number(question, weights, prices, part):
    if len(answers_left(question, part)) == 1:
        return 0
    weight = sum(weights[number] for number in row_numbers(part))
    found = []
    for spot, price in enumerate(prices):
        if part[spot] == 2:
            behind = [wanted_number(question, weights, prices, with_answer(part, spot, answer)) for answer in (0, 1)]
            found.append(price * weight + sum(behind))
    return min(found)


def wanted_table(question, weights, prices):
    many = len(question[0])
    by_price = tuple(prices or [1] * many)
    return tuple(wanted_number(question, tuple(weights), by_price, part) for part in wanted_parts(many))


def cost_of_ways(ways, weights, price_of):
    return sum(weight * sum(price_of[place] for place in asked) for weight, asked in zip(weights, ways) if weight)


class Interface(Case):
    def test_the_arguments_are_called_as_told(self):
        for name in ("whole_table", "whole_plan", "mean_price"):
            self.assert_arguments(whole, {name: "(question, weights, prices=None)"})


class Table(Case):
    def test_written_out(self):
        self.assert_numbers(whole_table(BOTH, [1, 1, 1, 1]), (0, 0, 0, 0, 0, 2, 0, 2, 6))
        self.assert_numbers(whole_table(BOTH, [1, 1, 1, 1], [3, 5]), (0, 0, 0, 0, 0, 10, 0, 6, 22))
        # Rain first would cost 7; where wind is asked first, no row of any weight is asked more.
        self.assert_numbers(whole_table(BOTH, [5, 0, 1, 0]), (0, 0, 0, 0, 0, 1, 0, 0, 6))
        self.assert_numbers(whole_table(BOTH, [0, 0, 0, 1], prices=[3, 5]), (0, 0, 0, 0, 0, 5, 0, 3, 8))
        self.assert_numbers(whole_table(question_made(["a"], [0, 1]), [0, 2], [MILLION]), (0, 0, 2 * MILLION))
        odd = question_made(["a", "b"], [0, 1, 1, 0])
        self.assert_numbers(whole_table(odd, [1, 2, 3, 4], [7, 9]), (0, 0, 27, 0, 0, 63, 28, 42, 160))

    def test_settled_from_the_beginning(self):
        for many in range(1, 7):
            for answer in (0, 1):
                question = question_made(SIX[:many], [answer] * 2 ** many)
                for prices in (None, [MILLION] * many):
                    weights = [3] * 2 ** many
                    self.assert_numbers(whole_table(question, weights, prices), (0,) * 3 ** many)
                    self.assertEqual(whole_plan(question, weights, prices), ("tell", answer))

    def test_part_by_part(self):
        for many in (1, 2, 3, 4):
            for question in some_questions(many):
                for prices in prices_tried(many):
                    for weights in WEIGHTS_BY_COUNT[many]:
                        told = whole_table(question, weights, prices)
                        self.assert_numbers(told, wanted_table(question, weights, prices))

    def test_prices_left_out_are_all_one(self):
        for many in (1, 2, 3, 4):
            weights = WEIGHTS_BY_COUNT[many][1]
            for question in some_questions(many):
                told = whole_table(question, weights)
                self.assertEqual(whole_table(question, weights, None), told)
                self.assertEqual(whole_table(question, weights, prices=None), told)
                self.assertEqual(whole_table(question, weights, [1] * many), told)
                self.assertEqual(whole_table(question, weights=weights, prices=[1] * many), told)

    def test_six_places(self):
        # Every row has to be asked all that is open.
        odd = question_read("( odd a b c d e f )", SIX)
        prices = [5, MILLION, 1, 20, 300, 4000]
        weights = [number * number for number in range(63)] + [MILLION]
        wanted = []
        for part in wanted_parts(6):
            weight = sum(weights[number] for number in row_numbers(part))
            wanted.append(weight * sum(price for price, told in zip(prices, part) if told == 2))
        self.assert_numbers(whole_table(odd, weights, prices), tuple(wanted))
        self.assertEqual(whole_table(odd, [MILLION] * 64, [MILLION] * 6)[-1], 64 * 6 * 10 ** 12)
        self.assertEqual(whole_table(question_read("( all a b c d e f )", SIX), [1] * 64)[-1], 126)

    def test_no_plan_costs_less(self):
        for many in (1, 2, 3):
            self.assertEqual(len(ways_by_question(many)), 2 ** 2 ** many)
            for weights, prices in zip(WEIGHTS_BY_COUNT[many], reversed(prices_tried(many))):
                price_of = dict(zip(SIX, prices or [1] * many))
                for question, plans in ways_by_question(many).items():
                    least = min(cost_of_ways(ways, weights, price_of) for ways in plans)
                    self.assertEqual(whole_table(question, weights, prices)[-1], least)


class Plan(Case):
    def assert_whole_plan(self, question, weights, prices):
        plan = whole_plan(question, weights, prices)
        self.assert_asks_till_settled(question, plan, (2,) * len(question[0]))
        self.assertIsNone(row_mistold(question, plan))
        cost = whole_table(question, weights, prices)[-1]
        self.assertEqual(cost_on_whole(plan, question[0], weights, prices), cost)

    def test_written_out(self):
        self.assertEqual(whole_plan(BOTH, [1, 1, 1, 1], [3, 5]), ("ask", "rain", NO, ("ask", "wind", NO, YES)))
        self.assertEqual(whole_plan(BOTH, [1, 1, 1, 1], prices=[5, 3]), ("ask", "wind", NO, ("ask", "rain", NO, YES)))
        self.assertEqual(whole_plan(BOTH, [5, 0, 1, 0]), ("ask", "wind", NO, ("ask", "rain", NO, YES)))
        self.assertEqual(whole_plan(BOTH, [5, 1, 0, 0], None), ("ask", "rain", NO, ("ask", "wind", NO, YES)))

    def test_of_every_question_with_one_or_two_places(self):
        for many in (1, 2):
            for question in every_question(SIX[:many]):
                for prices in prices_tried(many):
                    for weights in WEIGHTS_BY_COUNT[many]:
                        self.assert_whole_plan(question, weights, prices)

    def test_of_some_with_three_or_four(self):
        for many in (3, 4):
            for question in some_questions(many):
                for prices in prices_tried(many):
                    for weights in WEIGHTS_BY_COUNT[many]:
                        self.assert_whole_plan(question, weights, prices)

    def test_rows_without_weight_are_settled_too(self):
        for number in range(8):
            weights = [0] * 8
            weights[number] = 1
            for question in some_questions(3):
                self.assert_whole_plan(question, weights, None)

    def test_of_six(self):
        weights = [number * number % 11 for number in range(64)]
        for text in ("( odd a b c d e f )", "( ring a b c d e f )", "( joined a b c d e f )", "( any ( all a b ) e )"):
            for prices in (None, [5, MILLION, 1, 20, 300, 4000]):
                self.assert_whole_plan(question_read(text, SIX), weights, prices)


class Mean(Case):
    def assert_fraction(self, told, wanted):
        self.assertEqual(told, wanted)
        self.assertEqual([type(told), type(told[0]), type(told[1])], [tuple, int, int])

    def test_written_out(self):
        self.assert_fraction(mean_price(BOTH, [1, 1, 1, 1]), (3, 2))
        self.assert_fraction(mean_price(BOTH, [1, 1, 1, 1], None), (3, 2))
        self.assert_fraction(mean_price(BOTH, [1, 1, 1, 1], [3, 5]), (11, 2))
        self.assert_fraction(mean_price(BOTH, [2, 2, 2, 2], prices=[3, 5]), (11, 2))
        self.assert_fraction(mean_price(BOTH, [5, 0, 1, 0]), (1, 1))
        self.assert_fraction(mean_price(BOTH, [MILLION] * 4, [MILLION] * 2), (1500000, 1))
        self.assert_fraction(mean_price(question_made(["a"], [0, 1]), [0, 7]), (1, 1))

    def test_nought(self):
        for many in range(1, 7):
            for answer in (0, 1):
                question = question_made(SIX[:many], [answer] * 2 ** many)
                self.assert_fraction(mean_price(question, [6] * 2 ** many), (0, 1))
                self.assert_fraction(mean_price(question, [6] * 2 ** many, [9] * many), (0, 1))

    def test_lowest_terms(self):
        for many in (1, 2, 3, 4):
            for question in some_questions(many):
                for prices in prices_tried(many):
                    for weights in WEIGHTS_BY_COUNT[many]:
                        told = mean_price(question, weights, prices)
                        self.assert_fraction(told, told)
                        self.assertEqual(math.gcd(told[0], told[1]), 1)
                        self.assertGreater(told[1], 0)
                        cost = wanted_table(question, weights, prices)[-1]
                        self.assertEqual(told[0] * sum(weights), cost * told[1])


class Refused(Case):
    def tried(self, many):
        for answers in ([0] * 2 ** many, [0, 1] * 2 ** (many - 1)):
            for function in (whole_table, whole_plan, mean_price):
                yield (function, question_made(SIX[:many], answers))

    def test_wrong_prices(self):
        for many in range(1, 7):
            for function, question in self.tried(many):
                for prices in wrong_prices(many):
                    self.assert_refused(WrongPrices, function, question, [1] * 2 ** many, prices)

    def test_wrong_weights(self):
        for many in range(1, 7):
            for function, question in self.tried(many):
                for weights in wrong_weights(many):
                    self.assert_refused(WrongWeights, function, question, weights)
                    self.assert_refused(WrongWeights, function, question, weights, None)
                    self.assert_refused(WrongWeights, function, question, weights, [4] * many)

    def test_both_wrong(self):
        for many in (1, 2):
            for function, question in self.tried(many):
                for prices in wrong_prices(many):
                    for weights in wrong_weights(many):
                        self.assert_refused(WrongPrices, function, question, weights, prices)

    def test_the_edges(self):
        question = question_made(["a"], [0, 1])
        self.assertEqual(whole_table(question, [0, MILLION], [MILLION])[-1], 10 ** 12)
        self.assertEqual(whole_table(question, [1, 0], [1])[-1], 1)


class HandedIn(Case):
    def test_what_is_handed_in_stays(self):
        question = (("a", "b", "c"), (0, 1, 1, 0, 1, 0, 1, 1))
        weights = [3, 0, 1, 4, 1, 5, 9, 2]
        prices = [3, 1, 2]
        handed_in = [question, weights, prices]
        before = copy.deepcopy(handed_in)
        whole_table(question, weights, prices)
        whole_plan(question, weights, prices)
        mean_price(question, weights, prices)
        self.assertEqual(handed_in, before)

    def test_a_list_changed_behind_the_call_changes_nothing(self):
        question = (("a", "b", "c"), (0, 1, 1, 0, 1, 0, 1, 1))
        weights = [3, 0, 1, 4, 1, 5, 9, 2]
        prices = [3, 1, 2]
        told = [function(question, weights, prices) for function in (whole_table, whole_plan, mean_price)]
        kept = copy.deepcopy(told)
        weights[1] = MILLION
        weights.append(1)
        prices.clear()
        self.assertEqual(told, kept)
        again = [
            function(question, [3, 0, 1, 4, 1, 5, 9, 2], [3, 1, 2])
            for function in (whole_table, whole_plan, mean_price)
        ]
        self.assertEqual(again, kept)


if __name__ == "__main__":
    unittest.main()
