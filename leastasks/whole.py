"""Least on the whole: what settling a question costs over all rows by their weights, and a plan for it."""

from leastasks.plans import prices_told, refuse_wrong_weights
from leastasks.ratios import fraction
from leastasks.rows import parts_of, row_number, rows_in
from leastasks.worst import least_plan, least_table, numbers_behind


def whole_table(question, weights, prices=None):
    return least_table(question, whole_cost_of_ask(question, weights, prices))


def whole_plan(question, weights, prices=None):
    return least_plan(question, whole_cost_of_ask(question, weights, prices))


def mean_price(question, weights, prices=None):
    return fraction(whole_table(question, weights, prices)[-1], sum(weights))


def whole_cost_of_ask(question, weights, prices):
    many = len(question[0])
    price_at = prices_told(many, prices)
    refuse_wrong_weights(weights, many)
    weight_of = weights_by_part(many, weights)
    return lambda numbers, part, spot: price_at[spot] * weight_of[part] + sum(numbers_behind(numbers, part, spot))


def weights_by_part(many, weights):
    weight_of = {}
    for part in parts_of(many):
        weight_of[part] = sum([weights[row_number(row)] for row in rows_in(part)])
    return weight_of
