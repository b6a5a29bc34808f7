"""Settling parts: how little may be known where a question is settled, and which places sway a row."""

from leastasks.questions import answer_to, exchanged_at, settled_by
from leastasks.rows import ANSWERS, NOT_TOLD, all_choices, parts_of, rows_of


def settling_parts(question):
    answer_by = answers_by_part(question)
    return [(part, answer) for part, answer in answer_by.items() if is_least(part, answer_by)]


def shortest_part(question, row):
    # Each spot is told or open, in this order, so these stand in counting order, and min takes the first.
    fitted = all_choices([(told, NOT_TOLD) for told in row])
    return min([part for part in fitted if settled_by(question, part) is not None], key=size_of)


def settling_sizes(question):
    return tuple([greatest_size(question, answer) for answer in ANSWERS])


def swayed_at(question, row):
    ours = answer_to(question, row)
    return [
        place for spot, place in enumerate(question[0])
        if answer_to(question, exchanged_at(row, spot)) != ours
    ]


def answers_by_part(question):
    answer_by = {}
    for part in parts_of(len(question[0])):
        answer = settled_by(question, part)
        if answer is not None:
            answer_by[part] = answer
    return answer_by


def is_least(part, settled):
    wider = [opened_at(part, spot) for spot, told in enumerate(part) if told != NOT_TOLD]
    return not any([other in settled for other in wider])


def opened_at(part, spot):
    return part[:spot] + (NOT_TOLD,) + part[spot + 1:]


def size_of(part):
    return len(part) - part.count(NOT_TOLD)


def greatest_size(question, answer):
    rows = [row for row in rows_of(len(question[0])) if answer_to(question, row) == answer]
    return max([size_of(shortest_part(question, row)) for row in rows], default=0)
