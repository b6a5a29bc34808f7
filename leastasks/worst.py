"""Least at worst: what settling a question costs from each part on, a plan for it, and the foe's answers."""

from leastasks.plans import asking, prices_told, telling
from leastasks.questions import all_open, settled_by, spot_of
from leastasks.rows import ANSWERS, NOT_TOLD, parts_in, told_further


def worst_table(question, prices=None):
    return least_table(question, worst_cost_of_ask(question, prices))


def worst_plan(question, prices=None):
    return least_plan(question, worst_cost_of_ask(question, prices))


def foe_answer(question, part, place, prices=None):
    spot = spot_of(question, place)
    numbers = least_numbers(part, question, worst_cost_of_ask(question, prices))
    behind = numbers_behind(numbers, part, spot)
    return 0 if behind[0] > behind[1] else 1


def worst_cost_of_ask(question, prices):
    price_at = prices_told(len(question[0]), prices)
    return lambda numbers, part, spot: price_at[spot] + max(numbers_behind(numbers, part, spot))


def least_table(question, cost_of_ask):
    return tuple(least_numbers(all_open(question), question, cost_of_ask).values())


def least_plan(question, cost_of_ask):
    part = all_open(question)
    return least_plan_at(part, question, cost_of_ask, least_numbers(part, question, cost_of_ask))


def least_numbers(whole_part, question, cost_of_ask):
    return numbers_within(whole_part, question, lambda numbers, part: cheapest_ask(numbers, part, cost_of_ask)[0])


def numbers_within(whole_part, question, number_unsettled):
    # A part told further stands ahead of the part, so its number is there when it is wanted.
    numbers = {}
    for part in parts_in(whole_part):
        settled = settled_by(question, part) is not None
        numbers[part] = 0 if settled else number_unsettled(numbers, part)
    return numbers


def least_plan_at(part, question, cost_of_ask, numbers):
    settled = settled_by(question, part)
    if settled is not None:
        return telling(settled)
    spot = cheapest_ask(numbers, part, cost_of_ask)[1]
    if_no = least_plan_at(told_further(part, spot, 0), question, cost_of_ask, numbers)
    if_yes = least_plan_at(told_further(part, spot, 1), question, cost_of_ask, numbers)
    return asking(question[0][spot], if_no, if_yes)


def cheapest_ask(numbers, part, cost_of_ask):
    return min([(cost_of_ask(numbers, part, spot), spot) for spot, told in enumerate(part) if told == NOT_TOLD])


def numbers_behind(numbers, part, spot):
    return [numbers[told_further(part, spot, answer)] for answer in ANSWERS]
