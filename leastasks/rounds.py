"""Rounds of several asks at once: how many settle a question from each part on, and what to ask in one."""

from leastasks.errors import WrongSize
from leastasks.questions import all_open, settled_by
from leastasks.rows import ANSWERS, NOT_TOLD, all_choices
from leastasks.worst import numbers_within

FEWEST_AT_ONCE = 1
MOST_AT_ONCE = 6


def round_table(question, at_once):
    refuse_wrong_round(at_once)
    return tuple(round_numbers(all_open(question), question, at_once).values())


def round_to_ask(question, part, at_once):
    refuse_wrong_round(at_once)
    if settled_by(question, part) is not None:
        return []
    spots = best_round(round_numbers(part, question, at_once), part, at_once)[1]
    return [question[0][spot] for spot in spots]


def round_numbers(whole_part, question, at_once):
    return numbers_within(whole_part, question, lambda numbers, part: 1 + best_round(numbers, part, at_once)[0])


def best_round(numbers, part, at_once):
    return min([(greatest_behind(numbers, part, spots), spots) for spots in rounds_at(part, at_once)])


def greatest_behind(numbers, part, spots):
    parts_behind = all_choices([ANSWERS if spot in spots else (told,) for spot, told in enumerate(part)])
    return max([numbers[behind] for behind in parts_behind])


def rounds_at(part, at_once):
    # The choice of no spot begins the others, but is no round itself.
    chosen = [()]
    for spot, told in enumerate(part):
        if told == NOT_TOLD:
            chosen = chosen + [spots + (spot,) for spots in chosen if len(spots) < at_once]
    return chosen[1:]


def refuse_wrong_round(at_once):
    if at_once < FEWEST_AT_ONCE or at_once > MOST_AT_ONCE:
        raise WrongSize(f"{FEWEST_AT_ONCE} to {MOST_AT_ONCE} places are asked at once, not {at_once}")
