import copy
import itertools
import unittest

from leastasks import exchanging
from leastasks.errors import NoPlace
from leastasks.exchanging import groups_of, may_exchange, part_carried
from leastasks.questions import put_in_order, question_made, turned_about
from leastasks.rounds import round_table
from leastasks.settling import settling_sizes
from leastasks.texts import question_read
from leastasks.whole import mean_price, whole_table
from leastasks.worst import worst_table
from wanted import (
    MILLION, SIX, WRONG_ORDERS, Case, every_question, questions_by_step, turned_at, wanted_parts, wanted_rows,
)

BOTH = question_made(["rain", "wind"], [0, 0, 0, 1])
CHOSEN = question_read("( any ( all a b ) ( all ( not a ) c ) )", ["a", "b", "c"])
PRICES = [3, MILLION, 1, 20]
STRANGE = ("rai", "rainy", "Rain", "rain ", "d", "")


def some_questions(many):
    return questions_by_step(many, {3: 5, 4: 3001})


def with_symmetry():
    texts = [
        "( odd a b c d e f )", "( just 3 a b c d e f )", "( ring a b c d e f )", "( all a ( not a ) )", "e",
        "( any ( all a c ) ( all b d e f ) )", "( all ( any a b c ) ( any d e f ) )", "( least 2 f b d ( not a ) )",
        "( any ( all a b ) ( all c d ) ( all e f ) )",
    ]
    return [question_read(text, SIX) for text in texts]


def wanted_exchange(question, spot, other):
    # The answers are looked up row by row, with the two numbers of each row exchanged.
    answer_of = dict(zip(wanted_rows(len(question[0])), question[1]))
    for row in answer_of:
        exchanged = list(row)
        exchanged[spot], exchanged[other] = row[other], row[spot]
        if answer_of[tuple(exchanged)] != answer_of[row]:
            return False
    return True


def wanted_groups(question):
    # Each place with its group; equal groups come of several places, and only the first of them counts.
    found = []
    for spot in range(len(question[0])):
        group = [place for other, place in enumerate(question[0]) if wanted_exchange(question, spot, other)]
        if group not in found:
            found.append(group)
    return found


def in_order(values, places, order):
    # What stands for each place, a part's numbers or prices, put in the places' order.
    by_place = dict(zip(places, values))
    return [by_place[place] for place in order]


def weights_in_order(weights, places, order):
    weight_of = dict(zip(wanted_rows(len(places)), weights))
    return [weight_of[tuple(in_order(row, order, places))] for row in wanted_rows(len(places))]


def weights_turned(weights, many, spot):
    weight_of = dict(zip(wanted_rows(many), weights))
    return [weight_of[turned_at(row, spot)] for row in wanted_rows(many)]


def some_weights(many):
    return [(number * 5 + 3) % 7 for number in range(2 ** many)]


class Interface(Case):
    def test_the_arguments_are_called_as_told(self):
        self.assert_arguments(exchanging, {
            "may_exchange": "(question, one, other)",
            "groups_of": "(question)",
            "part_carried": "(part, places, order)",
        })


class Exchange(Case):
    def test_written_out(self):
        self.assertIs(may_exchange(BOTH, "rain", "wind"), True)
        self.assertIs(may_exchange(question_made(["rain", "wind"], [0, 0, 1, 0]), "rain", "wind"), False)
        self.assertIs(may_exchange(CHOSEN, "b", "c"), False)
        self.assertIs(may_exchange(CHOSEN, "a", "b"), False)
        chosen = question_read("( any ( all a b ) ( all ( not a ) c b ) )", ["c", "a", "b"])
        self.assertIs(may_exchange(chosen, "a", "c"), True)
        self.assertIs(may_exchange(chosen, "b", "c"), False)
        self.assertIs(may_exchange(question_made(["a", "b"], [1, 1, 1, 1]), "a", "b"), True)

    def test_every_two_places_either_way_round(self):
        for question in some_questions(2) + some_questions(3) + some_questions(4) + with_symmetry():
            for spot, one in enumerate(question[0]):
                for other_spot, other in enumerate(question[0]):
                    wanted = wanted_exchange(question, spot, other_spot)
                    self.assertIs(may_exchange(question, one, other), wanted)
                    self.assertIs(may_exchange(question, other, one), wanted)

    def test_each_with_itself(self):
        for many in (1, 2, 3):
            for question in every_question(SIX[:many]):
                for place in question[0]:
                    self.assertIs(may_exchange(question, place, place), True)

    def test_the_same_answers_put_in_the_order_with_both_exchanged(self):
        for question in some_questions(3):
            for order in (("b", "a", "c"), ("c", "b", "a"), ("a", "c", "b")):
                one, other = [place for place, there in zip(question[0], order) if place != there]
                same = put_in_order(question, list(order))[1] == question[1]
                self.assertIs(may_exchange(question, one, other), same)

    def test_strange_places(self):
        for question in (BOTH, question_made(["rain"], [0, 1]), question_made(["a", "b", "rain"], [1] * 8)):
            for place in STRANGE:
                for own in question[0]:
                    self.assert_refused(NoPlace, may_exchange, question, place, own)
                    self.assert_refused(NoPlace, may_exchange, question, own, place)
                for other in STRANGE:
                    self.assert_refused(NoPlace, may_exchange, question, place, other)


class Groups(Case):
    def test_written_out(self):
        self.assertEqual(groups_of(question_made(["a"], [0, 1])), [["a"]])
        self.assertEqual(groups_of(BOTH), [["rain", "wind"]])
        self.assertEqual(groups_of(question_made(["wind", "rain"], [0, 0, 0, 1])), [["wind", "rain"]])
        self.assertEqual(groups_of(question_made(["wind", "rain"], [0, 1, 0, 1])), [["wind"], ["rain"]])
        self.assertEqual(groups_of(CHOSEN), [["a"], ["b"], ["c"]])
        self.assertEqual(groups_of(question_read("( all ( any a c e ) ( any b d f ) )", SIX)), [
            ["a", "c", "e"], ["b", "d", "f"],
        ])
        backwards = question_read("( any ( all f b ) ( odd e c a ) )", SIX[::-1])
        self.assertEqual(groups_of(backwards), [["f", "b"], ["e", "c", "a"], ["d"]])
        self.assertEqual(groups_of(question_read("( least 2 a b c d e f )", SIX)), [SIX])
        # Places on which nothing hangs may be exchanged with one another.
        self.assertEqual(groups_of(question_read("d", SIX)), [["a", "b", "c", "e", "f"], ["d"]])

    def test_against_all_places(self):
        for question in (
            some_questions(1) + some_questions(2) + every_question(["a", "b", "c"]) + some_questions(4)
            + with_symmetry()
        ):
            told = groups_of(question)
            self.assertEqual(told, wanted_groups(question))
            self.assertEqual({type(told)} | {type(group) for group in told}, {list})
            self.assertEqual(sorted(sum(told, [])), sorted(question[0]))

    def test_places_in_another_order(self):
        for order in itertools.permutations(["c", "a", "b"]):
            for question in every_question(order)[::3]:
                self.assertEqual(groups_of(question), wanted_groups(question))


class Carried(Case):
    def test_written_out(self):
        self.assertEqual(part_carried((0, 1, 2), ("a", "b", "c"), ["c", "a", "b"]), (2, 0, 1))
        self.assertEqual(part_carried((0, 1, 2), ("a", "b", "c"), ["b", "c", "a"]), (1, 2, 0))
        self.assertEqual(part_carried((0, 1, 2), ["b", "c", "a"], ["a", "b", "c"]), (2, 0, 1))
        self.assertEqual(part_carried((1,), ("rain",), ["rain"]), (1,))
        self.assertEqual(part_carried((1, 2), ("rain", "wind"), ("wind", "rain")), (2, 1))

    def test_along_and_back(self):
        for many in (1, 2, 3, 4):
            places = tuple(SIX[:many])
            for order in itertools.permutations(places):
                for part in wanted_parts(many):
                    carried = part_carried(part, places, list(order))
                    self.assertEqual(carried, tuple(in_order(part, places, order)))
                    self.assertIs(type(carried), tuple)
                    self.assertEqual(part_carried(carried, order, list(places)), part)

    def test_of_six_places(self):
        order = ["d", "f", "a", "c", "b", "e"]
        self.assertEqual(part_carried((0, 1, 2, 2, 1, 0), tuple(SIX), order), (2, 0, 0, 2, 1, 1))
        for part in wanted_parts(6)[::50]:
            self.assertEqual(part_carried(part_carried(part, tuple(SIX), order), tuple(order), SIX), part)

    def test_wrong_orders(self):
        for order in WRONG_ORDERS:
            for part in ((0, 1, 2), (2, 2, 2)):
                self.assert_refused(NoPlace, part_carried, part, ("a", "b", "c"), order)
                self.assert_refused(NoPlace, part_carried, part, ["c", "a", "b"], tuple(order))


class TablesPutInOrder(Case):
    def orders_tried(self):
        for many in (1, 2, 3, 4):
            orders = list(itertools.permutations(SIX[:many]))
            step = {1: 1, 2: 1, 3: 3, 4: 4}[many]
            for question in some_questions(many)[::step]:
                for order in orders if many < 4 else orders[5::7]:
                    yield many, question, list(order)

    def assert_carried(self, question, order, table, table_in_order):
        told = dict(zip(wanted_parts(len(order)), table_in_order))
        for part, number in zip(wanted_parts(len(order)), table):
            self.assertEqual(told[part_carried(part, question[0], order)], number)

    def test_worst(self):
        for many, question, order in self.orders_tried():
            prices = PRICES[:many]
            moved = put_in_order(question, order)
            carried = in_order(prices, question[0], order)
            self.assert_carried(question, order, worst_table(question), worst_table(moved))
            self.assert_carried(question, order, worst_table(question, prices), worst_table(moved, carried))

    def test_whole(self):
        for many, question, order in self.orders_tried():
            prices = PRICES[:many]
            weights = some_weights(many)
            moved = put_in_order(question, order)
            weights_there = weights_in_order(weights, question[0], order)
            prices_there = in_order(prices, question[0], order)
            table = whole_table(question, weights, prices)
            self.assert_carried(question, order, table, whole_table(moved, weights_there, prices_there))
            self.assertEqual(mean_price(moved, weights_there, prices_there), mean_price(question, weights, prices))

    def test_rounds(self):
        for many, question, order in self.orders_tried():
            moved = put_in_order(question, order)
            for at_once in (2, 3):
                table = round_table(question, at_once)
                self.assert_carried(question, order, table, round_table(moved, at_once))

    def test_settling_sizes(self):
        for many, question, order in self.orders_tried():
            self.assertEqual(settling_sizes(put_in_order(question, order)), settling_sizes(question))

    def test_places_that_may_be_exchanged_change_no_number(self):
        found = 0
        for question in every_question(["a", "b"]) + every_question(["a", "b", "c"])[::3] + with_symmetry()[-1:]:
            for one, other in itertools.combinations(question[0], 2):
                if may_exchange(question, one, other):
                    found += 1
                    order = [{one: other, other: one}.get(place, place) for place in question[0]]
                    self.assert_same_numbers(question, put_in_order(question, order))
        self.assertGreater(found, 60)

    def assert_same_numbers(self, question, moved):
        self.assertEqual(worst_table(moved), worst_table(question))
        self.assertEqual(settling_sizes(moved), settling_sizes(question))
        for at_once in (2, 3):
            self.assertEqual(round_table(moved, at_once), round_table(question, at_once))


class TablesTurnedAbout(Case):
    def turns_tried(self):
        for many in (1, 2, 3, 4):
            for question in some_questions(many):
                for spot, place in enumerate(question[0]):
                    yield many, question, spot, turned_about(question, place)

    def assert_turned(self, many, spot, table, table_turned):
        told = dict(zip(wanted_parts(many), table_turned))
        for part, number in zip(wanted_parts(many), table):
            self.assertEqual(told[turned_at(part, spot)], number)

    def test_worst(self):
        for many, question, spot, turned in self.turns_tried():
            prices = PRICES[:many]
            self.assert_turned(many, spot, worst_table(question), worst_table(turned))
            self.assert_turned(many, spot, worst_table(question, prices), worst_table(turned, prices))

    def test_whole(self):
        for many, question, spot, turned in self.turns_tried():
            prices = PRICES[:many]
            weights = some_weights(many)
            table = whole_table(question, weights, prices)
            turned_table = whole_table(turned, weights_turned(weights, many, spot), prices)
            self.assert_turned(many, spot, table, turned_table)

    def test_rounds(self):
        for many, question, spot, turned in self.turns_tried():
            for at_once in (2, 3):
                self.assert_turned(many, spot, round_table(question, at_once), round_table(turned, at_once))

    def test_settling_sizes(self):
        for many, question, spot, turned in self.turns_tried():
            self.assertEqual(settling_sizes(turned), settling_sizes(question))


class HandedIn(Case):
    def test_what_is_handed_in_stays(self):
        handed_in = [copy.deepcopy(CHOSEN), (0, 1, 2), ["a", "b", "c"], ["c", "a", "b"]]
        before = copy.deepcopy(handed_in)
        may_exchange(handed_in[0], "a", "c")
        groups_of(handed_in[0])
        carried = part_carried(handed_in[1], handed_in[2], handed_in[3])
        self.assertEqual(handed_in, before)
        handed_in[3].clear()
        self.assertEqual(carried, (2, 0, 1))

    def test_told_lists_may_be_changed(self):
        for question in (CHOSEN, question_read("( all ( any a b ) c )", ["a", "b", "c"]), BOTH):
            first = groups_of(question)
            kept = groups_of(question)
            wanted = copy.deepcopy(first)
            first[0].append("more")
            first[0][0] = "changed"
            self.assertEqual(kept, wanted)
            self.assertEqual(groups_of(question), wanted)
            self.assertEqual(first[1:], wanted[1:])
            first.clear()
            self.assertEqual(groups_of(question), wanted)
        self.assertEqual(BOTH[0], ("rain", "wind"))


if __name__ == "__main__":
    unittest.main()
