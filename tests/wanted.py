"""What the tests hold the program against: worked out anew, without calling it."""

import functools
import inspect
import itertools
import unittest

SIX = ["a", "b", "c", "d", "e", "f"]
MILLION = 10 ** 6
NO = ("tell", 0)
YES = ("tell", 1)
# None of them has each of a, b and c just once.
WRONG_ORDERS = [
    [], ["a"], ["a", "b"], ["b", "c"], ["a", "a", "b"], ["a", "b", "b"], ["c", "c", "c"],
    ["a", "b", "d"], ["d", "b", "c"], ["a", "b", "C"], ["a", "b", ""],
    ["a", "b", "c", "d"], ["a", "b", "c", "a"], ["c", "b", "a", "b", "c", "a"],
]


def wanted_rows(many):
    return list(itertools.product((0, 1), repeat=many))


def wanted_parts(many):
    return list(itertools.product((0, 1, 2), repeat=many))


def fits(row, part):
    return all(told == 2 or told == number for number, told in zip(row, part))


@functools.lru_cache(maxsize=None)
def row_numbers(part):
    return tuple(number for number, row in enumerate(wanted_rows(len(part))) if fits(row, part))


def answers_left(question, part):
    return {question[1][number] for number in row_numbers(part)}


def with_answer(part, spot, answer):
    return part[:spot] + (answer,) + part[spot + 1:]


def turned_at(part, spot):
    return with_answer(part, spot, {0: 1, 1: 0, 2: 2}[part[spot]])


def every_round(part, at_once):
    # All choices of one to so many open spots.
    open_spots = [spot for spot, told in enumerate(part) if told == 2]
    return [spots for size in range(1, at_once + 1) for spots in itertools.combinations(open_spots, size)]


def parts_behind(part, spots):
    found = [part]
    for spot in spots:
        found = [with_answer(further, spot, answer) for further in found for answer in (0, 1)]
    return found


def every_question(places):
    return [(tuple(places), answers) for answers in itertools.product((0, 1), repeat=2 ** len(places))]


def questions_by_step(many, steps):
    # Of more places than two not all; by odd steps, so that every row has both answers somewhere.
    every = every_question(SIX[:many])
    return every[::steps.get(many, 1)] + every[-1:]


def every_plan(places):
    found = [NO, YES]
    for place in places:
        further = every_plan([other for other in places if other != place])
        found.extend(("ask", place, if_no, if_yes) for if_no in further for if_yes in further)
    return found


def way_of(plan, numbers):
    if plan[0] == "tell":
        return (plan[1], [])
    answer, asked = way_of(plan[2 + numbers[plan[1]]], numbers)
    return (answer, [plan[1]] + asked)


@functools.lru_cache(maxsize=None)
def ways_by_question(many):
    # Each plan settles just one question; kept of a plan is, row by row, which places it asks.
    found = {}
    for plan in every_plan(SIX[:many]):
        ways = [way_of(plan, dict(zip(SIX, row))) for row in wanted_rows(many)]
        question = (tuple(SIX[:many]), tuple(answer for answer, asked in ways))
        found.setdefault(question, []).append([asked for answer, asked in ways])
    return found


def wrong_prices(many):
    right = [4] * many
    wrong = [[], right + [4], right[1:], right + right]
    for number in (0, -1, MILLION + 1, 10 ** 12, -10 ** 12):
        wrong.extend([[number] + right[1:], right[1:] + [number]])
    return wrong


def wrong_weights(many):
    right = [4] * 2 ** many
    wrong = [[], right + [4], right[1:], right + right, [0] * len(right), [0] * (len(right) + 1)]
    for number in (-1, MILLION + 1, 10 ** 12, -10 ** 12):
        wrong.extend([[number] + right[1:], right[1:] + [number]])
    # Together 0 without being all 0.
    wrong.append([-1, 1] * (len(right) // 2))
    return wrong


class Case(unittest.TestCase):
    def assert_refused(self, error, function, *arguments):
        with self.assertRaises(error, msg=(function, arguments)) as caught:
            function(*arguments)
        self.assertIs(type(caught.exception), error, arguments)

    def assert_number(self, told, wanted):
        self.assertEqual(told, wanted)
        self.assertIs(type(told), int)

    def assert_numbers(self, told, wanted):
        self.assertEqual(told, wanted)
        self.assertIs(type(told), tuple)
        self.assertEqual({type(number) for number in told}, {int})

    def assert_arguments(self, module, wanted):
        for name, arguments in wanted.items():
            self.assertEqual(str(inspect.signature(getattr(module, name))), arguments, name)

    def assert_asks_till_settled(self, question, plan, part):
        # Where a place isn't open any more, it would be asked twice along the way.
        self.assertIs(type(plan), tuple)
        left = answers_left(question, part)
        if len(left) == 1:
            self.assertEqual(plan, ("tell", min(left)))
            self.assertIs(type(plan[1]), int)
            return
        self.assertEqual((len(plan), plan[0]), (4, "ask"))
        spot = question[0].index(plan[1])
        self.assertEqual(part[spot], 2)
        for answer in (0, 1):
            self.assert_asks_till_settled(question, plan[2 + answer], with_answer(part, spot, answer))
