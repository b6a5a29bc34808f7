import importlib
import itertools
import unittest

from leastasks.errors import AskError, NoPlace
from leastasks.exchanging import groups_of, may_exchange, part_carried
from leastasks.keepers import FoeKeeper, Keeper, RowKeeper, played
from leastasks.lies import lie_table, next_ask, rows_left
from leastasks.plans import cost_on_whole, dearest_way, depth_of, followed, plan_read, plan_shown
from leastasks.questions import (
    answer_to, denied, put_in_order, question_made, row_apart, settled_by, turned_about,
)
from leastasks.ratios import fraction
from leastasks.rounds import round_table, round_to_ask
from leastasks.settling import settling_parts, settling_sizes, shortest_part
from leastasks.texts import question_read, question_shown
from leastasks.trimming import row_mistold, trimmed
from leastasks.whole import mean_price, whole_plan, whole_table
from leastasks.worst import foe_answer, worst_plan, worst_table
from wanted import (
    MILLION, NO, SIX, YES, Case, every_question, fits, turned_at, wanted_parts, wanted_rows, ways_by_question,
)

PLACES = ["wind", "rain", "sun", "all"]
PRICES = [3, MILLION, 1, 20]
TEXTS = [
    "( all wind rain )", "( any wind ( not rain ) sun )", "( odd wind rain sun all )", "( least 2 wind rain sun all )",
    "( just 2 wind rain sun )", "( table 01101001 sun wind all )", "( any ( all wind rain ) ( all ( not wind ) sun ) )",
    "( ring wind rain sun all wind rain )", "( joined wind rain sun all wind rain )", "all", "( not sun )",
    "( all rain ( not rain ) )", "( any rain ( not rain ) )",
]
NAMES = {
    "errors": [
        "AskError", "WrongSize", "NoAsk", "NoWord", "Twice", "WrongAnswers", "Unlike", "NoPlace", "NoText",
        "WrongPrices", "WrongWeights", "NoPlan",
    ],
    "rows": [
        "rows_of", "parts_of", "row_at", "part_at", "row_number", "part_number", "row_fits", "part_within", "rows_in",
        "told_further",
    ],
    "questions": [
        "question_made", "answer_to", "settled_by", "counted_in", "sure_of", "row_apart", "denied", "turned_about",
        "put_in_order",
    ],
    "ratios": ["fraction"],
    "texts": ["question_read", "question_shown"],
    "plans": ["followed", "depth_of", "dearest_way", "cost_on_whole", "plan_shown", "plan_read"],
    "trimming": ["row_mistold", "trimmed"],
    "worst": ["worst_table", "worst_plan", "foe_answer"],
    "whole": ["whole_table", "whole_plan", "mean_price"],
    "settling": ["settling_parts", "shortest_part", "settling_sizes", "swayed_at"],
    "rounds": ["round_table", "round_to_ask"],
    "lies": ["rows_left", "lie_table", "next_ask"],
    "exchanging": ["may_exchange", "groups_of", "part_carried"],
    "keepers": ["Keeper", "RowKeeper", "FoeKeeper", "played"],
}


def questions_tried():
    return every_question(["a"]) + every_question(["b", "a"]) + every_question(["a", "b", "c"])[::5]


def questions_told():
    return [question_read(text, PLACES) for text in TEXTS]


def paid(told, question, prices):
    price_of = dict(zip(question[0], prices or [1] * len(question[0])))
    return sum(price_of[place] for place, answer in told)


def part_told(question, told):
    numbers = dict(told)
    return tuple(numbers.get(place, 2) for place in question[0])


class Interface(Case):
    def test_everything_stands_in_its_file(self):
        for file, names in NAMES.items():
            module = importlib.import_module(f"leastasks.{file}")
            for name in names:
                self.assertEqual(getattr(module, name).__module__, f"leastasks.{file}")


class TextsToPlays(Case):
    def test_a_text_shown_tells_the_question_again(self):
        for question in questions_told():
            again = question_read(question_shown(question), PLACES)
            self.assertEqual(again, question)
            self.assertIsNone(row_apart(again, question))

    def test_the_worst_plan_played_with_each_row(self):
        for question in questions_told() + questions_tried():
            for prices in (None, PRICES[:len(question[0])]):
                plan = worst_plan(question, prices)
                self.assertEqual(plan_read(plan_shown(plan), question[0]), plan)
                self.assertIsNone(row_mistold(question, plan))
                self.assertEqual(max(self.costs_by_row(question, plan, prices)), worst_table(question, prices)[-1])
                self.assertEqual(dearest_way(plan, question[0], prices), worst_table(question, prices)[-1])

    def costs_by_row(self, question, plan, prices):
        costs = []
        for row in wanted_rows(len(question[0])):
            keeper = RowKeeper(question[0], row)
            answer, told = played(plan, keeper)
            self.assertEqual(answer, answer_to(question, row))
            self.assertEqual((answer, [place for place, number in told]), followed(plan, question[0], row))
            self.assertEqual(keeper.told(), told)
            self.assertEqual(settled_by(question, part_told(question, told)), answer)
            self.assertGreaterEqual(len(told), len(row) - shortest_part(question, row).count(2))
            costs.append(paid(told, question, prices))
        return costs

    def test_the_worst_plan_played_with_the_foe(self):
        for question in questions_told() + questions_tried():
            for prices in (None, PRICES[:len(question[0])]):
                keeper = FoeKeeper(question, prices)
                answer, told = played(worst_plan(question, prices), keeper)
                self.assertEqual(settled_by(question, part_told(question, told)), answer)
                self.assertEqual(paid(told, question, prices), worst_table(question, prices)[-1])
                self.assertEqual(keeper.told(), told)

    def test_in_whatever_order_the_foe_is_asked(self):
        for question in questions_told() + questions_tried():
            for prices in (None, PRICES[:len(question[0])]):
                for order in itertools.permutations(question[0]):
                    keeper = FoeKeeper(question, prices)
                    for place in order:
                        if settled_by(question, part_told(question, keeper.told())) is None:
                            keeper.answer(place)
                    cost = paid(keeper.told(), question, prices)
                    self.assertGreaterEqual(cost, worst_table(question, prices)[-1])

    def test_the_plan_least_on_the_whole_played_with_each_row(self):
        for question in questions_told() + questions_tried():
            many = len(question[0])
            weights = [(number * 5 + 3) % 7 for number in range(2 ** many)]
            plan = whole_plan(question, weights, PRICES[:many])
            cost = 0
            for row, weight in zip(wanted_rows(many), weights):
                answer, told = played(plan, RowKeeper(question[0], row))
                self.assertEqual(answer, answer_to(question, row))
                cost += weight * paid(told, question, PRICES[:many])
            self.assertEqual(cost, whole_table(question, weights, PRICES[:many])[-1])
            self.assertEqual(cost, cost_on_whole(plan, question[0], weights, PRICES[:many]))
            self.assertEqual(fraction(cost, sum(weights)), mean_price(question, weights, PRICES[:many]))

    def test_trimming_takes_nothing_from_a_told_plan(self):
        for question in questions_told() + questions_tried():
            for plan in (worst_plan(question), whole_plan(question, [1] * len(question[1]))):
                self.assertIsNone(row_mistold(question, trimmed(question, plan)))
                self.assertLessEqual(depth_of(trimmed(question, plan)), depth_of(plan))

    def test_no_plan_costs_less(self):
        for question, plans in ways_by_question(2).items():
            depth = min(max(len(way) for way in ways) for ways in plans)
            self.assertEqual(worst_table(question)[-1], depth)
            on_whole = min(sum(len(way) for way in ways) for ways in plans)
            self.assertEqual(whole_table(question, [1, 1, 1, 1])[-1], on_whole)

    def test_settling_parts_and_depths(self):
        for question in questions_told() + questions_tried():
            for_no, for_yes = settling_sizes(question)
            depth = depth_of(worst_plan(question))
            self.assertLessEqual(max(for_no, for_yes), depth)
            self.assertLessEqual(depth, for_no * for_yes)
            least = settling_parts(question)
            for row, answer in zip(wanted_rows(len(question[0])), question[1]):
                self.assertEqual({told for part, told in least if fits(row, part)}, {answer})
            for (part, answer), (other, other_answer) in itertools.combinations(least, 2):
                if answer != other_answer:
                    self.assertTrue(any({one, two} == {0, 1} for one, two in zip(part, other)))


class RoundsAndLies(Case):
    def test_told_rounds_asked_of_keepers(self):
        for question in questions_told() + questions_tried():
            for at_once in (1, 2, 3):
                keepers = [RowKeeper(question[0], row) for row in wanted_rows(len(question[0]))]
                rounds = [self.rounds_asked(question, keeper, at_once) for keeper in keepers]
                self.assertEqual(max(rounds), round_table(question, at_once)[-1])
                for keeper, answer in zip(keepers, question[1]):
                    self.assertEqual(settled_by(question, part_told(question, keeper.told())), answer)

    def rounds_asked(self, question, keeper, at_once):
        rounds = 0
        asked = round_to_ask(question, part_told(question, keeper.told()), at_once)
        while asked:
            for place in asked:
                keeper.answer(place)
            rounds += 1
            asked = round_to_ask(question, part_told(question, keeper.told()), at_once)
        return rounds

    def test_one_at_once_without_lies_and_least_at_worst_are_alike(self):
        for question in questions_tried():
            self.assertEqual(round_table(question, 1), worst_table(question))
            self.assertEqual(lie_table(question, 0)[(0,) * len(question[1])], worst_table(question)[-1])

    def test_told_next_asks_of_keepers_that_lie_once(self):
        for question in questions_tried()[::7]:
            number = lie_table(question, 1)[(0,) * len(question[1])]
            for row, answer in zip(wanted_rows(len(question[0])), question[1]):
                for lied in range(number + 1):
                    told = self.asked_with_a_lie(question, row, lied)
                    self.assertLessEqual(len(told), number)
                    left = rows_left(question, 1, told)
                    self.assertIn(row, left)
                    self.assertEqual({answer_to(question, other) for other in left}, {answer})

    def asked_with_a_lie(self, question, row, lied):
        told = []
        keeper = RowKeeper(question[0], row)
        place = next_ask(question, 1, told)
        while place is not None:
            true_answer = keeper.answer(place)
            told.append((place, 1 - true_answer if len(told) == lied else true_answer))
            place = next_ask(question, 1, told)
        return told


class ExchangedAndTurned(Case):
    def numbers_of(self, question):
        tables = [worst_table(question)] + [round_table(question, at_once) for at_once in range(1, 5)]
        return (tables, settling_sizes(question))

    def test_exchanging_changes_no_number(self):
        for question in questions_told() + questions_tried():
            for group in groups_of(question):
                for one, other in itertools.combinations(group, 2):
                    self.assertTrue(may_exchange(question, one, other))
                    order = [{one: other, other: one}.get(place, place) for place in question[0]]
                    self.assertEqual(self.numbers_of(put_in_order(question, order)), self.numbers_of(question))

    def test_turning_about_changes_no_number(self):
        for question in questions_told() + questions_tried():
            parts = wanted_parts(len(question[0]))
            tables, sizes = self.numbers_of(question)
            for spot, place in enumerate(question[0]):
                tables_turned, sizes_turned = self.numbers_of(turned_about(question, place))
                self.assertEqual(sizes_turned, sizes)
                for table, turned in zip(tables, tables_turned):
                    number_at = dict(zip(parts, turned))
                    self.assertEqual(tuple(number_at[turned_at(part, spot)] for part in parts), table)
                    self.assertEqual(turned[-1], table[-1])

    def test_denying_changes_no_number_of_the_tables(self):
        for question in questions_told():
            tables, sizes = self.numbers_of(question)
            self.assertEqual(self.numbers_of(denied(question)), (tables, sizes[::-1]))


class StrangePlaces(Case):
    def test_refused_wherever_one_is_handed_in(self):
        question = question_made(["wind", "rain", "sun"], [0, 1, 1, 0, 1, 0, 0, 1])
        for place in ("snow", "Wind", "win", "", "wind "):
            order = ["wind", "rain", place]
            for function, arguments in (
                (turned_about, (question, place)),
                (put_in_order, (question, order)),
                (foe_answer, (question, (2, 2, 2), place)),
                (rows_left, (question, 1, [(place, 1)])),
                (next_ask, (question, 1, [(place, 1)])),
                (may_exchange, (question, place, "wind")),
                (may_exchange, (question, "wind", place)),
                (part_carried, ((0, 1, 2), question[0], order)),
                (Keeper(["wind", "rain", "sun"]).answer, (place,)),
                (RowKeeper(["wind", "rain", "sun"], (0, 1, 1)).answer, (place,)),
                (FoeKeeper(question).answer, (place,)),
            ):
                self.assert_refused(NoPlace, function, *arguments)
        self.assertEqual(NoPlace.__bases__, (AskError,))
        self.assert_refused(NoPlace, question_read, "( all wind snow )", ["wind", "rain", "sun"])


class NothingToAsk(Case):
    def test_where_all_rows_have_one_answer(self):
        for many in range(1, 7):
            for answer, plan in ((0, NO), (1, YES)):
                question = question_made(SIX[:many], [answer] * 2 ** many)
                self.assertEqual(worst_plan(question), plan)
                self.assertEqual(played(plan, FoeKeeper(question)), (answer, []))
                self.assertEqual(round_to_ask(question, (2,) * many, 6), [])
                self.assertEqual(settling_sizes(question), (0, 0))
                self.assertEqual(groups_of(question), [SIX[:many]])


if __name__ == "__main__":
    unittest.main()
