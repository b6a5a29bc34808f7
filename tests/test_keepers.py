import copy
import itertools
import unittest

from leastasks import keepers
from leastasks.errors import NoPlace, NoWord, Twice, WrongPrices, WrongSize
from leastasks.keepers import FoeKeeper, Keeper, RowKeeper, played
from leastasks.plans import plan_read
from leastasks.questions import question_made
from leastasks.texts import question_read
from leastasks.worst import foe_answer, worst_plan
from wanted import MILLION, NO, SIX, YES, Case, every_plan, every_question, wanted_rows, way_of, wrong_prices

BOTH = question_made(["rain", "wind"], [0, 0, 0, 1])
CHOSEN = question_read("( any ( all a b ) ( all ( not a ) c ) )", ["a", "b", "c"])
STRANGE = ("rai", "rainy", "Rain", "rain ", "d", "", "0")


def foe_told(question, order, prices=None):
    # What the foe answers, place by place, worked out from one part to the next.
    part = (2,) * len(question[0])
    told = []
    for place in order:
        spot = question[0].index(place)
        answer = foe_answer(question, part, place, prices)
        told.append((place, answer))
        part = part[:spot] + (answer,) + part[spot + 1:]
    return told


class Interface(Case):
    def test_the_arguments_are_called_as_told(self):
        self.assert_arguments(keepers, {
            "Keeper": "(places)",
            "RowKeeper": "(places, row)",
            "FoeKeeper": "(question, prices=None)",
            "played": "(plan, keeper)",
        })
        for kind in (Keeper, RowKeeper, FoeKeeper):
            self.assert_arguments(kind, {"answer": "(self, place)", "told": "(self)"})

    def test_the_others_stand_straight_under_keeper(self):
        self.assertEqual(Keeper.__bases__, (object,))
        self.assertEqual(RowKeeper.__bases__, (Keeper,))
        self.assertEqual(FoeKeeper.__bases__, (Keeper,))

    def test_places(self):
        for keeper in (Keeper(["rain", "wind"]), RowKeeper(["rain", "wind"], (0, 1)), FoeKeeper(BOTH)):
            self.assertEqual(keeper.places, ("rain", "wind"))
            self.assertIs(type(keeper.places), tuple)
        self.assertEqual(Keeper(("wind", "rain")).places, ("wind", "rain"))
        self.assertEqual(RowKeeper(BOTH[0], (0, 1)).places, ("rain", "wind"))


class KeeperCase(Case):
    def assert_answers(self, keeper, wanted):
        for number, (place, answer) in enumerate(wanted):
            self.assert_number(keeper.answer(place), answer)
            self.assertEqual(keeper.told(), wanted[:number + 1])
        for place, answer in reversed(wanted):
            self.assert_number(keeper.answer(place), answer)
        self.assertEqual(keeper.told(), wanted)
        self.assertIs(type(keeper.told()), list)
        self.assertTrue(all(type(pair) is tuple for pair in keeper.told()))

    def assert_strange_refused(self, keeper):
        before = keeper.told()
        for place in STRANGE:
            self.assert_refused(NoPlace, keeper.answer, place)
            self.assertEqual(keeper.told(), before)


class Answers(KeeperCase):
    def test_nothing_is_told_at_first(self):
        for keeper in (Keeper(["a"]), RowKeeper(["a"], (1,)), FoeKeeper(CHOSEN), FoeKeeper(CHOSEN, [1, 2, 3])):
            self.assertEqual(keeper.told(), [])
            self.assertIs(type(keeper.told()), list)

    def test_plain(self):
        for many in range(1, 7):
            for order in list(itertools.permutations(SIX[:many]))[::7]:
                self.assert_answers(Keeper(SIX[:many]), [(place, 0) for place in order])

    def test_of_a_row(self):
        for many in (1, 2, 3, 4):
            for row in wanted_rows(many):
                for order in list(itertools.permutations(SIX[:many]))[::5]:
                    numbers = dict(zip(SIX, row))
                    self.assert_answers(RowKeeper(SIX[:many], row), [(place, numbers[place]) for place in order])
        self.assert_answers(RowKeeper(["wind", "rain"], (1, 0)), [("rain", 0), ("wind", 1)])
        six = [("f", 0), ("b", 1), ("e", 1), ("a", 0), ("d", 0), ("c", 1)]
        self.assert_answers(RowKeeper(SIX, (0, 1, 1, 0, 1, 0)), six)

    def test_of_the_foe(self):
        for many in (1, 2, 3):
            for question in every_question(SIX[:many])[::1 if many < 3 else 5]:
                for prices in (None, [3, MILLION, 1][:many], [1, 2, 2][:many]):
                    for order in itertools.permutations(question[0]):
                        self.assert_answers(FoeKeeper(question, prices), foe_told(question, order, prices))

    def test_of_the_foe_written_out(self):
        self.assert_answers(FoeKeeper(BOTH), [("rain", 1), ("wind", 1)])
        either = question_made(["rain", "wind"], [0, 1, 1, 1])
        self.assert_answers(FoeKeeper(either), [("wind", 0), ("rain", 1)])
        self.assert_answers(FoeKeeper(either, prices=[3, 5]), [("rain", 0), ("wind", 1)])
        # By the second price a's answer is turned, and by that the answers to the others.
        self.assert_answers(FoeKeeper(CHOSEN, [1, 2, 1]), [("a", 1), ("c", 1), ("b", 1)])
        self.assert_answers(FoeKeeper(CHOSEN, [1, 1, 2]), [("a", 0), ("b", 1), ("c", 1)])
        self.assert_answers(FoeKeeper(CHOSEN, None), [("a", 1), ("b", 1), ("c", 1)])

    def test_of_the_foe_with_six_places(self):
        question = question_read("( ring a b c d e f )", SIX)
        prices = [5, MILLION, 1, 20, 300, 4000]
        for order in (SIX, SIX[::-1], ["d", "f", "a", "c", "b", "e"]):
            self.assert_answers(FoeKeeper(question), foe_told(question, order))
            self.assert_answers(FoeKeeper(question, prices), foe_told(question, order, prices))

    def test_a_place_asked_again(self):
        # Asked anew, the foe would refuse a place that isn't open any more.
        for keeper, wanted in (
            (Keeper(["rain", "wind"]), [("wind", 0)]), (RowKeeper(["rain", "wind"], (0, 1)), [("wind", 1)]),
            (FoeKeeper(BOTH), [("wind", 1)]), (FoeKeeper(question_made(["rain", "wind"], [0, 1, 1, 1])), [("wind", 0)]),
        ):
            for _ in range(5):
                self.assertEqual(keeper.answer("wind"), wanted[0][1])
                self.assertEqual(keeper.told(), wanted)
            first = keeper.answer("rain")
            for _ in range(3):
                self.assertEqual(keeper.answer("wind"), wanted[0][1])
                self.assertEqual(keeper.answer("rain"), first)
            self.assertEqual(keeper.told(), wanted + [("rain", first)])

    def test_keepers_do_not_share_what_they_remember(self):
        for make in (lambda: Keeper(["a", "b"]), lambda: RowKeeper(["a", "b"], (1, 0)), lambda: FoeKeeper(BOTH)):
            first = make()
            second = make()
            place = first.places[1]
            first.answer(place)
            self.assertEqual(len(first.told()), 1)
            self.assertEqual(second.told(), [])
            self.assertEqual(make().told(), [])


class Refused(KeeperCase):
    def test_strange_places(self):
        for keeper in (Keeper(["rain", "wind"]), RowKeeper(["rain", "wind"], (0, 1)), FoeKeeper(BOTH, [2, 1])):
            self.assert_strange_refused(keeper)
            keeper.answer("wind")
            self.assert_strange_refused(keeper)
            keeper.answer("rain")
            self.assert_strange_refused(keeper)
            self.assertEqual([place for place, answer in keeper.told()], ["wind", "rain"])

    def assert_places_refused(self, error, places):
        self.assert_refused(error, Keeper, places)
        self.assert_refused(error, RowKeeper, places, (0,) * len(places))
        self.assert_refused(error, RowKeeper, places, (0, 1))

    def test_wrong_places(self):
        for places in ([], SIX + ["g"], SIX + ["g", "h"], ["A"] * 7, ["a"] * 7):
            self.assert_places_refused(WrongSize, places)
        for wrong in ("", "A", "abcdefghi", "a b", "a1", "(", " a"):
            self.assert_places_refused(NoWord, [wrong])
            self.assert_places_refused(NoWord, ["a", wrong])
            self.assert_places_refused(NoWord, SIX[:5] + [wrong])
        for places in (["a", "a"], ["a", "b", "a"], SIX[:5] + ["c"], ["a", "a", "A"]):
            self.assert_places_refused(Twice, places)
        self.assert_places_refused(NoWord, ["a", "A", "a"])

    def test_wrong_prices(self):
        for many in range(1, 7):
            for answers in ([1] * 2 ** many, [0, 1] * 2 ** (many - 1)):
                question = question_made(SIX[:many], answers)
                for prices in wrong_prices(many):
                    self.assert_refused(WrongPrices, FoeKeeper, question, prices)
                FoeKeeper(question, [MILLION] * many)
                FoeKeeper(question, [1] * many)


class Plays(Case):
    def test_written_out(self):
        plan = plan_read("rain 0 wind 0 1", ["rain", "wind"])
        self.assertEqual(played(plan, Keeper(["rain", "wind"])), (0, [("rain", 0)]))
        self.assertEqual(played(plan, RowKeeper(["rain", "wind"], (1, 0))), (0, [("rain", 1), ("wind", 0)]))
        self.assertEqual(played(plan, RowKeeper(["wind", "rain"], (1, 1))), (1, [("rain", 1), ("wind", 1)]))
        self.assertEqual(played(plan, FoeKeeper(BOTH)), (1, [("rain", 1), ("wind", 1)]))

    def test_nothing_is_asked(self):
        for plan, answer in ((NO, 0), (YES, 1)):
            for keeper in (Keeper(["a"]), RowKeeper(["a"], (1,)), FoeKeeper(CHOSEN)):
                self.assert_number(played(plan, keeper)[0], answer)
                self.assertEqual(played(plan, keeper), (answer, []))
                self.assertEqual(keeper.told(), [])

    def assert_play(self, plan, keeper, numbers):
        # The numbers are what the keeper answers, by places.
        answer, asked = way_of(plan, numbers)
        told = played(plan, keeper)
        self.assertEqual(told, (answer, [(place, numbers[place]) for place in asked]))
        self.assertEqual([type(told), type(told[0]), type(told[1])], [tuple, int, list])
        self.assertTrue(all(type(pair) is tuple for pair in told[1]))

    def test_every_plan_with_the_plain_keeper_and_every_row(self):
        for many, step in ((1, 1), (2, 1), (3, 97)):
            for plan in every_plan(SIX[:many])[::step]:
                keeper = Keeper(SIX[:many])
                self.assert_play(plan, keeper, dict.fromkeys(SIX, 0))
                self.assertEqual(keeper.told(), played(plan, keeper)[1])
                for row in wanted_rows(many):
                    keeper = RowKeeper(SIX[:many], row)
                    self.assert_play(plan, keeper, dict(zip(SIX, row)))
                    self.assertEqual(keeper.told(), played(plan, keeper)[1])

    def test_plans_with_the_foe(self):
        for question in every_question(["a", "b"])[::3] + [question_made(["b", "a"], [0, 0, 1, 0])]:
            for plan in every_plan(["a", "b"])[::3]:
                for prices in (None, [3, 1]):
                    self.assert_foe_play(question, plan, prices)
        for question in (CHOSEN, question_read("( least 2 a b c )", SIX[:3])):
            for plan in every_plan(["a", "b", "c"])[::499]:
                self.assert_foe_play(question, plan, [2, 1, 3])

    def assert_foe_play(self, question, plan, prices):
        keeper = FoeKeeper(question, prices)
        answer, told = played(plan, keeper)
        order = [place for place, number in told]
        self.assertEqual(told, foe_told(question, order, prices))
        self.assertEqual((answer, order), way_of(plan, dict(told)))
        self.assertEqual(keeper.told(), told)

    def test_places_of_the_keeper_that_the_plan_does_not_ask(self):
        plan = plan_read("e 0 b 0 1", SIX)
        keeper = RowKeeper(SIX, (0, 1, 1, 0, 1, 0))
        self.assertEqual(played(plan, keeper), (1, [("e", 1), ("b", 1)]))
        self.assertEqual(keeper.told(), [("e", 1), ("b", 1)])

    def test_behind_earlier_asks(self):
        plan = plan_read("rain 0 wind 0 1", ["rain", "wind"])
        for keeper, wanted in (
            (Keeper(["sun", "wind", "rain"]), (0, [("rain", 0)])),
            (RowKeeper(["sun", "wind", "rain"], (0, 1, 1)), (1, [("rain", 1), ("wind", 1)])),
            (RowKeeper(["sun", "wind", "rain"], (1, 0, 1)), (0, [("rain", 1), ("wind", 0)])),
        ):
            wind = keeper.answer("wind")
            sun = keeper.answer("sun")
            before = [("wind", wind), ("sun", sun)]
            self.assertEqual(played(plan, keeper), wanted)
            self.assertEqual(keeper.told(), before + [("rain", wanted[1][0][1])])
            self.assertEqual(played(plan, keeper), wanted)
            self.assertEqual(keeper.told(), before + [("rain", wanted[1][0][1])])

    def test_the_foe_behind_earlier_asks(self):
        # Asked for b first, the foe answers a by what is left then; b isn't asked anew in the play.
        plan = plan_read("a c 0 1 b 0 1", ["a", "b", "c"])
        for prices in (None, [1, 2, 1], [1, 1, 2]):
            for first in ("a", "b", "c"):
                keeper = FoeKeeper(CHOSEN, prices)
                before = [(first, keeper.answer(first))]
                answer, told = played(plan, keeper)
                order = [first] + [place for place, number in told if place != first]
                self.assertEqual(keeper.told(), foe_told(CHOSEN, order, prices))
                self.assertEqual(keeper.told()[:1], before)
                self.assertEqual((answer, [place for place, number in told]), way_of(plan, dict(keeper.told())))
                self.assertEqual(played(plan, keeper), (answer, told))

    def test_two_plans_one_after_the_other(self):
        keeper = RowKeeper(["a", "b", "c"], (1, 0, 1))
        self.assertEqual(played(plan_read("c 0 b 0 1", ["b", "c"]), keeper), (0, [("c", 1), ("b", 0)]))
        self.assertEqual(played(plan_read("a 0 b 1 c 0 1", SIX[:3]), keeper), (1, [("a", 1), ("b", 0)]))
        self.assertEqual(keeper.told(), [("c", 1), ("b", 0), ("a", 1)])


class HandedIn(Case):
    def test_the_list_of_places_changed_behind_the_making(self):
        for make in (Keeper, lambda places: RowKeeper(places, (0, 1))):
            places = ["rain", "wind"]
            keeper = make(places)
            self.assertEqual(places, ["rain", "wind"])
            places[0] = "sun"
            places.reverse()
            places.append("d")
            self.assertEqual(keeper.places, ("rain", "wind"))
            self.assert_refused(NoPlace, keeper.answer, "sun")
            self.assert_refused(NoPlace, keeper.answer, "d")
            self.assertEqual(keeper.answer("rain"), 0)
            self.assertEqual(keeper.answer("wind"), 0 if make is Keeper else 1)
            self.assertEqual(places, ["wind", "sun", "d"])

    def test_prices_changed_behind_the_making(self):
        prices = [1, 1, 2]
        keeper = FoeKeeper(CHOSEN, prices)
        prices[1] = 3
        self.assertEqual(keeper.answer("a"), 0)
        self.assertEqual(prices, [1, 3, 2])
        prices.clear()
        self.assertEqual([keeper.answer("c"), keeper.answer("b")], [1, 1])
        prices = [1, 2, 1]
        keeper = FoeKeeper(CHOSEN, prices)
        self.assertEqual([keeper.answer("a"), prices], [1, [1, 2, 1]])

    def test_told_lists_may_be_changed(self):
        for keeper in (Keeper(["rain", "wind"]), RowKeeper(["rain", "wind"], (0, 1)), FoeKeeper(BOTH)):
            nothing = keeper.told()
            nothing.append(("rain", 7))
            self.assertEqual(keeper.told(), [])
            answer = keeper.answer("wind")
            first = keeper.told()
            kept = keeper.told()
            self.assertEqual(nothing, [("rain", 7)])
            first[0] = ("wind", 1 - answer)
            first.append(("rain", 1))
            self.assertEqual([kept, keeper.told()], [[("wind", answer)]] * 2)
            self.assertEqual(keeper.answer("wind"), answer)
            first.clear()
            self.assertEqual(keeper.told(), [("wind", answer)])
            keeper.answer("rain")
            self.assertEqual([first, kept], [[], [("wind", answer)]])
            self.assertEqual([place for place, number in keeper.told()], ["wind", "rain"])

    def test_lists_of_a_play_may_be_changed(self):
        plan = worst_plan(BOTH)
        for keeper in (Keeper(["rain", "wind"]), RowKeeper(["rain", "wind"], (1, 1)), FoeKeeper(BOTH)):
            told = played(plan, keeper)[1]
            kept = copy.deepcopy(told)
            remembered = keeper.told()
            told.append("more")
            told[0] = "changed"
            self.assertEqual(keeper.told(), remembered)
            self.assertEqual(played(plan, keeper)[1], kept)
            told.clear()
            self.assertEqual(keeper.told(), remembered)
            self.assertEqual(played(plan, keeper)[1], kept)

    def test_a_plan_stays(self):
        plan = worst_plan(CHOSEN)
        before = copy.deepcopy(plan)
        played(plan, FoeKeeper(CHOSEN))
        self.assertEqual(plan, before)


if __name__ == "__main__":
    unittest.main()
