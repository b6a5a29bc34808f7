"""Keepers: they hold what is hidden, answer asks and remember them; and plans played with them."""

from leastasks.errors import NoPlace
from leastasks.plans import answer_told, is_ask, place_asked, plan_behind, prices_told
from leastasks.questions import refuse_wrong_places
from leastasks.rows import NOT_TOLD
from leastasks.worst import foe_answer


class Keeper:
    def __init__(self, places):
        refuse_wrong_places(places)
        self.places = tuple(places)
        self.remembered = {}

    def answer(self, place):
        if place not in self.places:
            raise NoPlace(f"{place!r} is no place of the keeper")
        if place not in self.remembered:
            self.remembered[place] = self.first_answer(place)
        return self.remembered[place]

    def told(self):
        return list(self.remembered.items())

    def first_answer(self, place):
        return 0


class RowKeeper(Keeper):
    def __init__(self, places, row):
        Keeper.__init__(self, places)
        self.row = row

    def first_answer(self, place):
        return self.row[self.places.index(place)]


class FoeKeeper(Keeper):
    def __init__(self, question, prices=None):
        Keeper.__init__(self, question[0])
        self.question = question
        self.prices = prices_told(len(question[0]), prices)

    def first_answer(self, place):
        part = tuple([self.remembered.get(asked, NOT_TOLD) for asked in self.places])
        return foe_answer(self.question, part, place, self.prices)


def played(plan, keeper):
    told = []
    while is_ask(plan):
        place = place_asked(plan)
        answer = keeper.answer(place)
        told.append((place, answer))
        plan = plan_behind(plan, answer)
    return (answer_told(plan), told)
