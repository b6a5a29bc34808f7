"""Questions told by texts. A form is kept as a tuple (kind, own, forms): the kind, the piece that the kind
wants for its own, or none, and the forms that it wants; a place likewise, with the place for its own."""

from leastasks.errors import NoPlace, NoText
from leastasks.pieces import Pieces, is_made_of, is_word
from leastasks.questions import answer_to, count_of_rows, refuse_wrong_places
from leastasks.rows import row_number, rows_of

KINDS = ("not", "all", "any", "odd", "least", "just", "table", "ring", "joined")
COUNTING_KINDS = ("least", "just")
TYING_KINDS = ("ring", "joined")

# Stands where the kinds stand and is none of them, so that places may be called like kinds.
PLACE = "place"

MOST_BRACKETS = 8
MOST_TABLE_FORMS = 4

TIED_SPOTS = (0, 1, 2, 3)
TIES = ((0, 1), (0, 2), (0, 3), (1, 2), (1, 3), (2, 3))


def question_read(text, places):
    refuse_wrong_places(places)
    form = form_of(text)
    if not keeps_to(form, places):
        raise NoPlace("the text has a word that is none of the places")
    answers = [said_by(form, dict(zip(places, row))) for row in rows_of(len(places))]
    return (tuple(places), tuple(answers))


def question_shown(question):
    rows = [row for row in rows_of(len(question[0])) if answer_to(question, row) == 1]
    if rows == []:
        first = question[0][0]
        return f"( all {first} ( not {first} ) )"
    shown = " ".join([row_shown(question[0], row) for row in rows])
    return f"( any {shown} )"


def row_shown(places, row):
    shown = " ".join([place_shown(place, number) for place, number in zip(places, row)])
    return f"( all {shown} )"


def place_shown(place, number):
    return place if number == 1 else f"( not {place} )"


def form_of(text):
    pieces = Pieces(text)
    form = form_taken(pieces, 0)
    if not pieces.all_taken():
        raise NoText("something stands behind the form")
    return form


def form_taken(pieces, brackets):
    piece = pieces.taken()
    if piece == "(":
        return bracketed_taken(pieces, brackets + 1)
    if not is_word(piece):
        raise NoText(f"{piece!r} stands where a form is wanted")
    # Strange words pass here: whether the text is a form at all is looked at first.
    return (PLACE, piece, ())


def bracketed_taken(pieces, brackets):
    if brackets > MOST_BRACKETS:
        raise NoText(f"more than {MOST_BRACKETS} brackets stand unclosed at once")
    kind = pieces.taken()
    if kind not in KINDS:
        raise NoText(f"{kind!r} is no kind")
    own = pieces.taken() if wants_own(kind) else ""
    forms = []
    while pieces.ahead() != ")":
        forms.append(form_taken(pieces, brackets))
    pieces.taken()
    if not takes_count(kind, len(forms)) or not takes_own(kind, own, len(forms)):
        raise NoText(f"{kind!r} has not what it wants")
    return (kind, own, tuple(forms))


def wants_own(kind):
    return kind == "table" or kind in COUNTING_KINDS


def takes_count(kind, count):
    if kind == "not":
        return count == 1
    if kind == "table":
        return count >= 1 and count <= MOST_TABLE_FORMS
    if kind in TYING_KINDS:
        return count == len(TIES)
    return count >= 1


def takes_own(kind, own, count):
    if kind == "table":
        return len(own) == count_of_rows(count) and is_made_of(own, "01")
    if kind in COUNTING_KINDS:
        return is_number(own)
    return True


def is_number(piece):
    if not is_made_of(piece, "0123456789"):
        return False
    return len(piece) == 1 or (len(piece) == 2 and piece[0] != "0")


def keeps_to(form, places):
    if form[0] == PLACE:
        return form[1] in places
    return all([keeps_to(inner, places) for inner in form[2]])


def said_by(form, numbers):
    if form[0] == PLACE:
        return numbers[form[1]]
    said = [said_by(inner, numbers) for inner in form[2]]
    return 1 if says_yes(form[0], form[1], said) else 0


def says_yes(kind, own, said):
    if kind == "not":
        return said[0] == 0
    if kind == "all":
        return sum(said) == len(said)
    if kind == "any":
        return sum(said) >= 1
    if kind == "odd":
        return sum(said) % 2 == 1
    if kind == "least":
        return sum(said) >= int(own)
    if kind == "just":
        return sum(said) == int(own)
    if kind == "table":
        return own[row_number(said)] == "1"
    if kind == "ring":
        return has_ring(said)
    return count_of_clusters(said) == 1


def has_ring(said):
    # Without a ring each tie makes two clusters one; a tie more than that closes a ring.
    return sum(said) > len(TIED_SPOTS) - count_of_clusters(said)


def count_of_clusters(said):
    marks = list(TIED_SPOTS)
    for tie, number in zip(TIES, said):
        if number == 1:
            marks = marks_tied(marks, marks[tie[0]], marks[tie[1]])
    return len(set(marks))


def marks_tied(marks, one, other):
    return [one if mark == other else mark for mark in marks]
