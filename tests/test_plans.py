import copy
import itertools
import unittest

from leastasks import plans
from leastasks.errors import NoPlan, NoWord, Twice, WrongPrices, WrongSize, WrongWeights
from leastasks.plans import cost_on_whole, dearest_way, depth_of, followed, plan_read, plan_shown
from wanted import MILLION, NO, SIX, YES, Case, every_plan, wanted_rows, way_of, wrong_prices, wrong_weights

RAIN_WIND = ("ask", "rain", NO, ("ask", "wind", NO, YES))
UNEVEN = ("ask", "b", ("ask", "a", YES, NO), ("ask", "c", ("ask", "a", NO, YES), YES))


def some_plans(many):
    # Every 97th of three places; those of more places ask these ahead of, or behind, the others.
    found = every_plan(SIX[:min(many, 3)])
    found = found[::97] + found[-1:] if many >= 3 else found
    for place in SIX[3:many]:
        found = [("ask", place, one, other) for one, other in zip(found, found[::-1])] + [asked_last(found[-1], place)]
    return found


def asked_last(plan, place):
    if plan[0] == "tell":
        return ("ask", place, plan, ("tell", 1 - plan[1]))
    return ("ask", plan[1], asked_last(plan[2], place), asked_last(plan[3], place))


def ways_of(plan):
    if plan[0] == "tell":
        return [[]]
    return [[plan[1]] + way for way in ways_of(plan[2]) + ways_of(plan[3])]


def text_of(plan):
    return str(plan[1]) if plan[0] == "tell" else f"{plan[1]} {text_of(plan[2])} {text_of(plan[3])}"


class Interface(Case):
    def test_the_arguments_are_called_as_told(self):
        wanted = {
            "followed": "(plan, places, row)",
            "depth_of": "(plan)",
            "dearest_way": "(plan, places, prices=None)",
            "cost_on_whole": "(plan, places, weights, prices=None)",
            "plan_shown": "(plan)",
            "plan_read": "(text, places)",
        }
        self.assert_arguments(plans, wanted)


class Followed(Case):
    def test_written_out(self):
        places = ["rain", "wind"]
        self.assertEqual(followed(RAIN_WIND, places, (0, 1)), (0, ["rain"]))
        self.assertEqual(followed(RAIN_WIND, places, (1, 0)), (0, ["rain", "wind"]))
        self.assertEqual(followed(RAIN_WIND, ("rain", "wind"), (1, 1)), (1, ["rain", "wind"]))
        self.assertEqual(followed(RAIN_WIND, ["wind", "rain"], (0, 1)), (0, ["rain", "wind"]))
        self.assertEqual(followed(RAIN_WIND, ["wind", "rain"], (1, 0)), (0, ["rain"]))
        self.assertEqual(followed(UNEVEN, SIX[:3], (1, 1, 0)), (1, ["b", "c", "a"]))
        self.assertEqual(followed(UNEVEN, SIX[:3], (0, 1, 1)), (1, ["b", "c"]))
        self.assertEqual(followed(YES, ["a"], (0,)), (1, []))

    def test_every_row_of_every_plan(self):
        for many in range(1, 7):
            for plan in some_plans(many):
                for row in wanted_rows(many):
                    self.assert_followed(plan, SIX[:many], row)

    def assert_followed(self, plan, places, row):
        told = followed(plan, places, row)
        self.assertEqual(told, way_of(plan, dict(zip(places, row))))
        self.assertEqual([type(told), type(told[0]), type(told[1])], [tuple, int, list])

    def test_a_told_list_may_be_changed(self):
        first = followed(UNEVEN, SIX[:3], (1, 1, 0))[1]
        kept = followed(UNEVEN, SIX[:3], (1, 1, 0))[1]
        first.append("more")
        first[0] = "changed"
        self.assertEqual(followed(UNEVEN, SIX[:3], (1, 1, 0)), (1, ["b", "c", "a"]))
        first.clear()
        self.assertEqual(kept, ["b", "c", "a"])
        self.assertEqual(followed(UNEVEN, SIX[:3], (1, 1, 0)), (1, ["b", "c", "a"]))
        followed(YES, ["a"], (0,))[1].append("a")
        self.assertEqual(followed(YES, ["a"], (0,)), (1, []))


class Depth(Case):
    def test_written_out(self):
        self.assert_number(depth_of(NO), 0)
        self.assert_number(depth_of(YES), 0)
        self.assert_number(depth_of(("ask", "a", NO, YES)), 1)
        self.assert_number(depth_of(RAIN_WIND), 2)
        self.assert_number(depth_of(("ask", "rain", ("ask", "wind", NO, YES), NO)), 2)
        self.assert_number(depth_of(UNEVEN), 3)

    def test_every_plan(self):
        for many in range(1, 7):
            for plan in some_plans(many):
                self.assert_number(depth_of(plan), max(len(way) for way in ways_of(plan)))


PRICES = [7, 1, 20, 3, MILLION, 50]


class Dearest(Case):
    def test_written_out(self):
        places = ["rain", "wind"]
        self.assert_number(dearest_way(RAIN_WIND, places), 2)
        self.assert_number(dearest_way(RAIN_WIND, places, None), 2)
        self.assert_number(dearest_way(RAIN_WIND, places, [3, 5]), 8)
        self.assert_number(dearest_way(RAIN_WIND, ("rain", "wind"), prices=[MILLION, MILLION]), 2 * MILLION)
        # The dearest way is not the deepest one.
        self.assert_number(dearest_way(UNEVEN, SIX[:3], [10, 1, 2]), 13)
        self.assert_number(dearest_way(("ask", "c", NO, ("ask", "a", NO, ("ask", "b", NO, YES))), SIX, PRICES), 28)
        self.assert_number(dearest_way(
            ("ask", "a", ("ask", "b", NO, ("ask", "d", NO, YES)), ("ask", "f", YES, NO)), SIX, PRICES), 57)
        self.assert_number(dearest_way(NO, ["a"], [5]), 0)
        self.assert_number(dearest_way(NO, ["a"]), 0)

    def test_every_plan(self):
        for many in range(1, 7):
            price_of = dict(zip(SIX, PRICES[:many]))
            for plan in some_plans(many):
                wanted = max(sum(price_of[place] for place in way) for way in ways_of(plan))
                self.assert_number(dearest_way(plan, SIX[:many], PRICES[:many]), wanted)
                self.assert_number(dearest_way(plan, SIX[:many]), depth_of(plan))
                self.assert_number(dearest_way(plan, SIX[:many], None), depth_of(plan))

    def test_the_edges_of_prices(self):
        plan = ("ask", "a", NO, YES)
        self.assert_number(dearest_way(plan, ["a"], [1]), 1)
        self.assert_number(dearest_way(plan, ["a"], [MILLION]), MILLION)
        for prices in wrong_prices(1):
            self.assert_refused(WrongPrices, dearest_way, plan, ["a"], prices)

    def test_wrong_prices(self):
        for many in range(1, 7):
            for plan in (NO, some_plans(many)[-1]):
                for prices in wrong_prices(many):
                    self.assert_refused(WrongPrices, dearest_way, plan, SIX[:many], prices)


class OnWhole(Case):
    def test_written_out(self):
        places = ["rain", "wind"]
        self.assert_number(cost_on_whole(RAIN_WIND, places, [1, 1, 1, 1]), 6)
        self.assert_number(cost_on_whole(RAIN_WIND, places, [1, 1, 1, 1], None), 6)
        self.assert_number(cost_on_whole(RAIN_WIND, places, [1, 2, 3, 4], [10, 5]), 30 + 105)
        self.assert_number(cost_on_whole(RAIN_WIND, places, [0, 0, 0, 1], prices=[10, 5]), 15)
        self.assert_number(cost_on_whole(RAIN_WIND, ["wind", "rain"], [1, 2, 3, 4], [5, 10]), 10 * 10 + 5 * 6)
        self.assert_number(cost_on_whole(NO, ["a"], [3, 4], [5]), 0)

    def test_every_plan(self):
        for many in range(1, 7):
            weights = [(number * number + 3) % 10 for number in range(2 ** many)]
            price_of = dict(zip(SIX, PRICES[:many]))
            for plan in some_plans(many):
                asked = [way_of(plan, dict(zip(SIX, row)))[1] for row in wanted_rows(many)]
                costs = [weight * sum(price_of[place] for place in way) for weight, way in zip(weights, asked)]
                counts = [weight * len(way) for weight, way in zip(weights, asked)]
                self.assert_number(cost_on_whole(plan, SIX[:many], weights, PRICES[:many]), sum(costs))
                self.assert_number(cost_on_whole(plan, SIX[:many], weights), sum(counts))
                self.assert_number(cost_on_whole(plan, tuple(SIX[:many]), tuple(weights), None), sum(counts))

    def test_the_edges_of_weights(self):
        plan = ("ask", "a", NO, YES)
        self.assert_number(cost_on_whole(plan, ["a"], [0, 1]), 1)
        self.assert_number(cost_on_whole(plan, ["a"], [1, 0]), 1)
        self.assert_number(cost_on_whole(plan, ["a"], [MILLION, MILLION], [MILLION]), 2 * MILLION * MILLION)
        self.assert_number(cost_on_whole(plan, SIX, [0] * 63 + [1], [2] * 6), 2)

    def test_wrong_prices(self):
        for many in range(1, 7):
            for plan in (NO, some_plans(many)[-1]):
                for prices in wrong_prices(many):
                    self.assert_refused(WrongPrices, cost_on_whole, plan, SIX[:many], [1] * 2 ** many, prices)

    def test_wrong_weights(self):
        for many in range(1, 7):
            for plan in (NO, some_plans(many)[-1]):
                for weights in wrong_weights(many):
                    self.assert_refused(WrongWeights, cost_on_whole, plan, SIX[:many], weights)
                    self.assert_refused(WrongWeights, cost_on_whole, plan, SIX[:many], weights, None)
                    self.assert_refused(WrongWeights, cost_on_whole, plan, SIX[:many], weights, [4] * many)

    def test_both_wrong(self):
        for prices in wrong_prices(2):
            for weights in wrong_weights(2):
                self.assert_refused(WrongPrices, cost_on_whole, RAIN_WIND, ["rain", "wind"], weights, prices)


class Shown(Case):
    def test_sign_by_sign(self):
        for plan, wanted in (
            (NO, "0"),
            (YES, "1"),
            (("ask", "a", NO, YES), "a 0 1"),
            (RAIN_WIND, "rain 0 wind 0 1"),
            (UNEVEN, "b a 1 0 c a 0 1 1"),
            (("ask", "tell", YES, ("ask", "ask", YES, NO)), "tell 1 ask 1 0"),
        ):
            self.assertEqual(plan_shown(plan), wanted)
            self.assertIs(type(plan_shown(plan)), str)

    def test_read_again_it_is_the_plan(self):
        for plan in every_plan(SIX[:3]):
            self.assertEqual(plan_shown(plan), text_of(plan))
            self.assertEqual(plan_read(text_of(plan), SIX[:3]), plan)
        for many in range(1, 7):
            for plan in some_plans(many):
                self.assertEqual(plan_read(plan_shown(plan), SIX[:many]), plan)
                self.assertEqual(plan_read(plan_shown(plan), tuple(SIX[:many][::-1])), plan)


class Read(Case):
    def assert_no_plan(self, text, places):
        self.assert_refused(NoPlan, plan_read, text, places)

    def test_written_out(self):
        told = plan_read("rain 0 wind 0 1", ["wind", "rain"])
        self.assertEqual(told, RAIN_WIND)
        self.assertEqual([type(told), type(told[2]), type(told[2][1])], [tuple, tuple, int])
        self.assertEqual(plan_read("tell 0 ask 1 0", ["ask", "tell"]), ("ask", "tell", NO, ("ask", "ask", YES, NO)))

    def test_the_same_place_once_on_each_of_two_ways(self):
        self.assertEqual(
            plan_read("a b 0 1 b 1 0", ["a", "b"]),
            ("ask", "a", ("ask", "b", NO, YES), ("ask", "b", YES, NO)))
        self.assertEqual(plan_read("b a 1 0 c a 0 1 1", SIX), UNEVEN)

    def test_no_plans(self):
        for text in (
            "", " ", "  ", " 0", "0 ", "  0", " a 0 1", "a 0 1 ", "a  0 1", "a 0  1", "a  0  1",
            "a", "a 0", "a b", "a b 0", "a b 0 1", "a 0 b", "a 0 b 1", "b a 0 1",
            "0 0", "0 1", "1 a", "a 0 1 0", "a 0 1 b", "a 0 1 a 0 1", "a b 0 1 0 1", "0 a 0 1",
            "zz", "zz 0 1", "a zz 0 1 1", "a 0 zz 0 1", "A 0 1", "aa 0 1", "ab 0 1", "a 0 B 0 1", "( a 0 1 )",
            "2", "-1", "01", "00", "a 0 2", "a 2 0", "a 10 1", "a 01", "a01", "a 0 1.", "tell 0", "ask a 0 1",
            "a a 0 1 1", "a 0 a 0 1", "a b a 0 1 1 0", "a b 0 a 0 1 1", "a 0 b 0 a 0 1", "b a 0 b 0 1 1",
            "a a a a a a a", " ".join(["a"] * 4000), " ".join(["a", "b"] * 2000),
        ):
            self.assert_no_plan(text, ["a", "b"])

    def test_every_text_of_few_pieces(self):
        wanted = {text_of(plan): plan for plan in every_plan(["a", "b"])}
        for count in range(1, 7):
            for pieces in itertools.product(["0", "1", "a", "b", "zz", ""], repeat=count):
                text = " ".join(pieces)
                if text in wanted:
                    self.assertEqual(plan_read(text, ["a", "b"]), wanted[text])
                else:
                    self.assert_no_plan(text, ["a", "b"])

    def test_the_faults_of_the_places_go_first(self):
        for text in ("0", "a 0 1", "", "a", "zz 0 1", "a 0 a 0 1", "0 "):
            self.assert_refused(WrongSize, plan_read, text, [])
            self.assert_refused(WrongSize, plan_read, text, SIX + ["g"])
            self.assert_refused(WrongSize, plan_read, text, ["A"] * 7)
            for wrong in ("", "ninelette", "A", "a1", "0", " ", "a b"):
                self.assert_refused(NoWord, plan_read, text, [wrong])
                self.assert_refused(NoWord, plan_read, text, ["a", wrong])
            self.assert_refused(Twice, plan_read, text, ["a", "b", "a"])
            self.assert_refused(Twice, plan_read, text, ["a", "a", "A"])
            self.assert_refused(NoWord, plan_read, text, ["a", "A", "a"])


class HandedIn(Case):
    def test_what_is_handed_in_stays(self):
        places = ["a", "b", "c"]
        prices = [5, 1, 9]
        weights = [1, 0, 2, 0, 3, 0, 4, 0]
        handed_in = [UNEVEN, places, prices, weights]
        before = copy.deepcopy(handed_in)
        followed(UNEVEN, places, (1, 1, 0))
        depth_of(UNEVEN)
        dearest_way(UNEVEN, places, prices)
        cost_on_whole(UNEVEN, places, weights, prices)
        plan_shown(UNEVEN)
        plan_read("b a 1 0 c a 0 1 1", places)
        self.assertEqual(handed_in, before)

    def test_a_list_changed_behind_the_call_changes_nothing(self):
        places = ["a", "b", "c"]
        prices = [5, 1, 9]
        weights = [1, 0, 2, 0, 3, 0, 4, 0]
        plan = plan_read("b a 1 0 c a 0 1 1", places)
        told = followed(plan, places, (1, 1, 0))
        dearest = dearest_way(plan, places, prices)
        cost = cost_on_whole(plan, places, weights, prices)
        places.clear()
        prices[0] = 100
        weights[0] = 100
        self.assertEqual(plan, UNEVEN)
        self.assertEqual(told, (1, ["b", "c", "a"]))
        self.assertEqual(dearest_way(UNEVEN, ["a", "b", "c"], [5, 1, 9]), dearest)
        self.assertEqual(cost_on_whole(UNEVEN, ["a", "b", "c"], [1, 0, 2, 0, 3, 0, 4, 0], [5, 1, 9]), cost)
        self.assertEqual(dearest_way(UNEVEN, ["a", "b", "c"]), 3)


class SevenPlaces(Case):
    def test_more_places_than_a_question_has_are_not_refused(self):
        places = SIX + ["g"]
        plan = ("ask", "a", NO, ("ask", "g", NO, YES))
        self.assertEqual(followed(plan, places, (1, 0, 0, 0, 0, 0, 1)), (1, ["a", "g"]))
        self.assert_number(dearest_way(plan, places, [1, 1, 1, 1, 1, 1, 5]), 6)
        self.assert_number(cost_on_whole(plan, places, [1] * 128), 64 + 128)
        self.assert_refused(WrongWeights, cost_on_whole, plan, places, [1] * 64)


if __name__ == "__main__":
    unittest.main()
