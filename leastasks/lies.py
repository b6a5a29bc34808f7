"""Lies: which rows are left where some answers may be lies, how many asks settle that, and what to ask next."""

from leastasks.errors import WrongSize
from leastasks.questions import answer_to, count_of_rows, spot_of
from leastasks.rows import ANSWERS, rows_of

FEWEST_LIES = 0
MOST_LIES = 2
MOST_PLACES_WITH_LIES = 3

# Stands in a state for a row that has more lies than allowed.
GONE = -1


def rows_left(question, lies, told):
    return rows_of_state(state_told(question, lies, told), question)


def lie_table(question, lies):
    numbers = {}
    number_filled_in(numbers, state_told(question, lies, []), question, lies)
    return numbers


def next_ask(question, lies, told):
    state = state_told(question, lies, told)
    if is_settled(state, question):
        return None
    return question[0][best_ask({}, state, question, lies)[1]]


def state_told(question, lies, told):
    refuse_wrong_lies(question, lies)
    state = (0,) * count_of_rows(len(question[0]))
    for place, answer in told:
        state = state_behind(state, spot_of(question, place), answer, question, lies)
    return state


def state_behind(state, spot, answer, question, lies):
    rows = rows_of(len(question[0]))
    return tuple([
        number if row[spot] == answer else with_another_lie(number, lies) for row, number in zip(rows, state)
    ])


def with_another_lie(number, lies):
    return GONE if number == GONE or number == lies else number + 1


def rows_of_state(state, question):
    return [row for row, number in zip(rows_of(len(question[0])), state) if number != GONE]


def is_settled(state, question):
    answers = [answer_to(question, row) for row in rows_of_state(state, question)]
    return len(set(answers)) <= 1


def number_filled_in(numbers, state, question, lies):
    # Many ways of asking lead to one state, and its number is worked out only once.
    if state not in numbers:
        settled = is_settled(state, question)
        numbers[state] = 0 if settled else 1 + best_ask(numbers, state, question, lies)[0]
    return numbers[state]


def best_ask(numbers, state, question, lies):
    spots = spots_unlike(rows_of_state(state, question))
    return min([(greatest_behind(numbers, state, spot, question, lies), spot) for spot in spots])


def greatest_behind(numbers, state, spot, question, lies):
    states = [state_behind(state, spot, answer, question, lies) for answer in ANSWERS]
    return max([number_filled_in(numbers, behind, question, lies) for behind in states])


def spots_unlike(rows):
    return [spot for spot, number in enumerate(rows[0]) if any([row[spot] != number for row in rows])]


def refuse_wrong_lies(question, lies):
    if lies < FEWEST_LIES or lies > MOST_LIES:
        raise WrongSize(f"{FEWEST_LIES} to {MOST_LIES} answers may be lies, not {lies}")
    if len(question[0]) > MOST_PLACES_WITH_LIES:
        raise WrongSize(f"with lies a question has at most {MOST_PLACES_WITH_LIES} places")
