"""Rows, what the hidden places may be, and parts, what may be known of them; both in counting order."""

from leastasks.errors import NoAsk, WrongSize

FEWEST_PLACES = 1
MOST_PLACES = 6

ANSWERS = (0, 1)
NOT_TOLD = 2
TELLINGS = (0, 1, 2)


def rows_of(many):
    refuse_wrong_size(many)
    return all_choices([ANSWERS] * many)


def parts_of(many):
    refuse_wrong_size(many)
    return all_choices([TELLINGS] * many)


def row_at(many, number):
    refuse_wrong_size(many)
    return figures_of(number, many, len(ANSWERS))


def part_at(many, number):
    refuse_wrong_size(many)
    return figures_of(number, many, len(TELLINGS))


def row_number(row):
    return number_of(row, len(ANSWERS))


def part_number(part):
    return number_of(part, len(TELLINGS))


def row_fits(row, part):
    # A row tells every spot, so fitting a part is being within it.
    return part_within(row, part)


def part_within(part, other):
    return all([theirs == NOT_TOLD or theirs == ours for ours, theirs in zip(part, other)])


def rows_in(part):
    return all_choices([ANSWERS if told == NOT_TOLD else (told,) for told in part])


def parts_in(part):
    return all_choices([TELLINGS if told == NOT_TOLD else (told,) for told in part])


def told_further(part, spot, answer):
    # A spot below 0 would count from the part's end, and there is no such spot.
    if spot < 0 or spot >= len(part) or part[spot] != NOT_TOLD:
        raise NoAsk(f"nothing can be asked at spot {spot} of {part}")
    return part[:spot] + (answer,) + part[spot + 1:]


def refuse_wrong_size(many):
    if many < FEWEST_PLACES or many > MOST_PLACES:
        raise WrongSize(f"there are {FEWEST_PLACES} to {MOST_PLACES} places, not {many}")


def all_choices(figures_by_spot):
    # Each spot is put behind all that stood ahead, so the last one goes round fastest.
    chosen = [()]
    for figures in figures_by_spot:
        longer = []
        for ahead in chosen:
            longer.extend([ahead + (figure,) for figure in figures])
        chosen = longer
    return chosen


def figures_of(number, many, base):
    backwards = []
    left = number
    while len(backwards) < many:
        backwards.append(left % base)
        left = left // base
    return tuple(reversed(backwards))


def number_of(figures, base):
    number = 0
    for figure in figures:
        number = number * base + figure
    return number
