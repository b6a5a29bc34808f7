"""Questions: tuples (places, answers), with an answer for each row in counting order."""

from leastasks.errors import NoPlace, NoWord, Twice, Unlike, WrongAnswers
from leastasks.pieces import is_word
from leastasks.ratios import fraction
from leastasks.rows import ANSWERS, NOT_TOLD, refuse_wrong_size, row_number, rows_in, rows_of


def question_made(places, answers):
    refuse_wrong_places(places)
    refuse_wrong_answers(answers, len(places))
    return (tuple(places), tuple(answers))


def answer_to(question, row):
    return question[1][row_number(row)]


def settled_by(question, part):
    counted = counted_in(question, part)
    if counted[1] == 0:
        return 0
    if counted[0] == 0:
        return 1
    return None


def counted_in(question, part):
    answers = [answer_to(question, row) for row in rows_in(part)]
    return (answers.count(0), answers.count(1))


def sure_of(question, part):
    counted = counted_in(question, part)
    return fraction(counted[1], sum(counted))


def row_apart(question, other):
    if question[0] != other[0]:
        raise Unlike("questions about unlike places can't be compared")
    for row in rows_of(len(question[0])):
        if answer_to(question, row) != answer_to(other, row):
            return row
    return None


def denied(question):
    return (question[0], tuple([1 - answer for answer in question[1]]))


def turned_about(question, place):
    spot = spot_of(question, place)
    rows = [exchanged_at(row, spot) for row in rows_of(len(question[0]))]
    return (question[0], tuple([answer_to(question, row) for row in rows]))


def put_in_order(question, places):
    refuse_other_order(question[0], places)
    spots = [places.index(place) for place in question[0]]
    rows = [picked(row, spots) for row in rows_of(len(places))]
    return (tuple(places), tuple([answer_to(question, row) for row in rows]))


def all_open(question):
    return (NOT_TOLD,) * len(question[0])


def spot_of(question, place):
    if place not in question[0]:
        raise NoPlace(f"{place!r} is no place of the question")
    return question[0].index(place)


def exchanged_at(row, spot):
    return row[:spot] + (1 - row[spot],) + row[spot + 1:]


def picked(row, spots):
    return tuple([row[spot] for spot in spots])


def refuse_wrong_places(places):
    refuse_wrong_size(len(places))
    ahead = []
    for place in places:
        if not is_word(place):
            raise NoWord(f"{place!r} is no word of one to eight small letters")
        if place in ahead:
            raise Twice(f"the place {place!r} stands twice")
        ahead.append(place)


def refuse_wrong_answers(answers, many):
    if len(answers) != count_of_rows(many):
        raise WrongAnswers("there is to be one answer for each row")
    for answer in answers:
        if answer not in ANSWERS:
            raise WrongAnswers(f"an answer is 0 or 1, not {answer}")


def count_of_rows(many):
    # The last row has 1 everywhere, and numbers begin with 0.
    return row_number((1,) * many) + 1


def refuse_other_order(places, order):
    if sorted(order) != sorted(places):
        raise NoPlace("the order is to have each place of the question once, and no others")
