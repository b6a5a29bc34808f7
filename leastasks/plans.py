"""Plans: a told answer is ("tell", answer), an asked place ("ask", place, if_no, if_yes)."""

from leastasks.errors import NoPlan, WrongPrices, WrongWeights
from leastasks.pieces import Pieces
from leastasks.questions import count_of_rows, refuse_wrong_places
from leastasks.rows import NOT_TOLD, rows_in

LEAST_PRICE = 1
LEAST_WEIGHT = 0
GREATEST_NUMBER = 1000000


def followed(plan, places, row):
    numbers = dict(zip(places, row))
    asked = []
    while is_ask(plan):
        asked.append(place_asked(plan))
        plan = plan_behind(plan, numbers[place_asked(plan)])
    return (answer_told(plan), asked)


def depth_of(plan):
    if not is_ask(plan):
        return 0
    return 1 + max(depth_of(plan_behind(plan, 0)), depth_of(plan_behind(plan, 1)))


def dearest_way(plan, places, prices=None):
    return dearest_by(plan, prices_by_place(places, prices))


def cost_on_whole(plan, places, weights, prices=None):
    price_of = prices_by_place(places, prices)
    refuse_wrong_weights(weights, len(places))
    cost = 0
    # rows_of would refuse more places than a question has, and nothing is to be refused for that here.
    for row, weight in zip(rows_in((NOT_TOLD,) * len(places)), weights):
        asked = followed(plan, places, row)[1]
        cost = cost + weight * sum([price_of[place] for place in asked])
    return cost


def plan_shown(plan):
    if not is_ask(plan):
        return str(answer_told(plan))
    return " ".join([place_asked(plan), plan_shown(plan_behind(plan, 0)), plan_shown(plan_behind(plan, 1))])


def plan_read(text, places):
    refuse_wrong_places(places)
    pieces = Pieces(text)
    plan = plan_taken(pieces, places)
    if not pieces.all_taken():
        raise NoPlan("something stands behind the plan")
    return plan


def telling(answer):
    return ("tell", answer)


def asking(place, if_no, if_yes):
    return ("ask", place, if_no, if_yes)


def is_ask(plan):
    return plan[0] == "ask"


def answer_told(plan):
    return plan[1]


def place_asked(plan):
    return plan[1]


def plan_behind(plan, answer):
    return plan[3] if answer == 1 else plan[2]


def plan_taken(pieces, places):
    piece = pieces.taken()
    if piece == "0":
        return telling(0)
    if piece == "1":
        return telling(1)
    if piece not in places:
        raise NoPlan(f"{piece!r} is no answer, nor a place that may be asked here")
    # Whatever was asked ahead on the way is no place for what follows.
    places_left = [place for place in places if place != piece]
    if_no = plan_taken(pieces, places_left)
    if_yes = plan_taken(pieces, places_left)
    return asking(piece, if_no, if_yes)


def dearest_by(plan, price_of):
    if not is_ask(plan):
        return 0
    further = max(dearest_by(plan_behind(plan, 0), price_of), dearest_by(plan_behind(plan, 1), price_of))
    return price_of[place_asked(plan)] + further


def prices_by_place(places, prices):
    return dict(zip(places, prices_told(len(places), prices)))


def prices_told(many, prices):
    if prices is None:
        return [1] * many
    if len(prices) != many or not all_between(prices, LEAST_PRICE):
        raise WrongPrices(f"prices are {many} numbers from {LEAST_PRICE} to {GREATEST_NUMBER}")
    return list(prices)


def refuse_wrong_weights(weights, many):
    if len(weights) != count_of_rows(many) or not all_between(weights, LEAST_WEIGHT):
        raise WrongWeights(f"weights are numbers from {LEAST_WEIGHT} to {GREATEST_NUMBER}, one for each row")
    if sum(weights) == 0:
        raise WrongWeights("the weights are all 0")


def all_between(numbers, least):
    return all([number >= least and number <= GREATEST_NUMBER for number in numbers])
