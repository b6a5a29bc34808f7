import inspect
import itertools
import re
import unittest

from leastasks import texts
from leastasks.errors import NoPlace, NoText, NoWord, Twice, WrongSize
from leastasks.questions import question_made
from leastasks.texts import question_read, question_shown
from wanted import SIX, wanted_rows

KINDS = ["not", "all", "any", "odd", "least", "just", "table", "ring", "joined"]
EVERY_SIGN = [chr(number) for number in range(ord(" "), ord("~") + 1)]
TIES = list(itertools.combinations(range(4), 2))
RINGS = [
    [(0, 1), (1, 2), (0, 2)], [(0, 1), (1, 3), (0, 3)], [(0, 2), (2, 3), (0, 3)], [(1, 2), (2, 3), (1, 3)],
    [(0, 1), (1, 2), (2, 3), (0, 3)], [(0, 1), (1, 3), (2, 3), (0, 2)], [(0, 2), (1, 2), (1, 3), (0, 3)],
]


def ties_of(row):
    return [tie for tie, number in zip(TIES, row) if number == 1]


def makes_ring(row):
    return any(all(tie in ties_of(row) for tie in ring) for ring in RINGS)


def makes_joined(row):
    reached = {0}
    for step in range(4):
        for one, other in ties_of(row):
            if one in reached or other in reached:
                reached |= {one, other}
    return reached == {0, 1, 2, 3}


class Case(unittest.TestCase):
    def assert_refused(self, error, text, places):
        with self.assertRaises(error, msg=(text, places)) as caught:
            question_read(text, places)
        self.assertIs(type(caught.exception), error, (text, places))

    def assert_reads(self, text, places, says):
        wanted = tuple(int(says(*row)) for row in wanted_rows(len(places)))
        told = question_read(text, places)
        self.assertEqual(told, (tuple(places), wanted), text)
        self.assertEqual([type(told), type(told[0]), type(told[1])], [tuple, tuple, tuple])
        self.assertTrue(all(type(answer) is int for answer in told[1]))


class Interface(Case):
    def test_the_arguments_are_called_as_told(self):
        self.assertEqual(list(inspect.signature(texts.question_read).parameters), ["text", "places"])
        self.assertEqual(list(inspect.signature(texts.question_shown).parameters), ["question"])


class Kinds(Case):
    def test_a_place_by_itself(self):
        for many in range(1, 7):
            for spot in range(many):
                self.assert_reads(SIX[spot], SIX[:many], lambda *row: row[spot])

    def test_places_as_a_tuple(self):
        places = question_made(["rain", "wind"], [0, 0, 0, 1])[0]
        self.assert_reads("( any rain wind )", places, lambda rain, wind: rain or wind)

    def test_not(self):
        self.assert_reads("( not a )", ["a"], lambda a: not a)
        self.assert_reads("( not b )", ["a", "b"], lambda a, b: not b)

    def test_all_any_and_odd_of_one_to_six_forms(self):
        for many in range(1, 7):
            forms = " ".join(SIX[:many])
            self.assert_reads(f"( all {forms} )", SIX, lambda *row: all(row[:many]))
            self.assert_reads(f"( any {forms} )", SIX, lambda *row: any(row[:many]))
            self.assert_reads(f"( odd {forms} )", SIX, lambda *row: sum(row[:many]) in (1, 3, 5))

    def test_a_form_may_stand_several_times(self):
        self.assert_reads("( odd a a )", ["a"], lambda a: False)
        self.assert_reads("( odd a a a )", ["a"], lambda a: a)
        self.assert_reads("( just 2 a a b )", ["a", "b"], lambda a, b: a and not b)

    def test_least_and_just_with_numbers_of_one_figure(self):
        for many in range(1, 7):
            forms = " ".join(SIX[:many])
            for number in range(10):
                self.assert_reads(f"( least {number} {forms} )", SIX, lambda *row: sum(row[:many]) >= number)
                self.assert_reads(f"( just {number} {forms} )", SIX, lambda *row: sum(row[:many]) == number)

    def test_least_and_just_with_numbers_of_two_figures(self):
        forms = " ".join(["a"] * 10 + ["b"] * 2 + ["c"])
        for number in range(10, 100):
            count = lambda a, b, c: 10 * a + 2 * b + c
            self.assert_reads(f"( least {number} {forms} )", SIX[:3], lambda *row: count(*row) >= number)
            self.assert_reads(f"( just {number} {forms} )", SIX[:3], lambda *row: count(*row) == number)

    def test_ninety_nine_forms(self):
        forms = " ".join(["a"] * 98 + ["b"])
        self.assert_reads(f"( least 99 {forms} )", ["a", "b"], lambda a, b: a and b)
        self.assert_reads(f"( just 98 {forms} )", ["a", "b"], lambda a, b: a and not b)

    def test_tables_of_one_and_two_forms(self):
        for many in (1, 2):
            for signs in itertools.product("01", repeat=2 ** many):
                self.assert_table("".join(signs), SIX[:many])
                self.assert_table("".join(signs), SIX[:many][::-1])

    def test_tables_of_three_and_four_forms(self):
        for many in (3, 4):
            for seed in range(1, 60):
                signs = [str(seed * (spot + 2) * (spot + 5) // 7 % 2) for spot in range(2 ** many)]
                self.assert_table("".join(signs), SIX[:many])
                self.assert_table("".join(signs), SIX[6 - many:][::-1])
            for spot in range(2 ** many):
                self.assert_table("0" * spot + "1" + "0" * (2 ** many - 1 - spot), SIX[:many])

    def assert_table(self, signs, forms):
        def says(*row):
            numbers = dict(zip(SIX, row))
            return signs[int("".join(str(numbers[form]) for form in forms), 2)] == "1"
        self.assert_reads("( table " + signs + " " + " ".join(forms) + " )", SIX, says)

    def test_ring_and_joined_written_out(self):
        yes = "( any a ( not a ) )"
        no = "( all a ( not a ) )"
        wanted = {
            # ring, joined
            "000000": (0, 0), "111111": (1, 1), "110100": (1, 0), "101010": (1, 0), "011001": (1, 0),
            "000111": (1, 0), "101101": (1, 1), "110011": (1, 1), "011110": (1, 1), "111000": (0, 1),
            "100101": (0, 1), "100001": (0, 0), "010010": (0, 0), "001100": (0, 0), "110101": (1, 1),
        }
        for ties, (ring, joined) in wanted.items():
            forms = " ".join(yes if sign == "1" else no for sign in ties)
            self.assert_reads(f"( ring {forms} )", ["a"], lambda a: ring)
            self.assert_reads(f"( joined {forms} )", ["a"], lambda a: joined)

    def test_ring_and_joined_by_every_row(self):
        forms = " ".join(SIX)
        self.assert_reads(f"( ring {forms} )", SIX, lambda *row: makes_ring(row))
        self.assert_reads(f"( joined {forms} )", SIX, lambda *row: makes_joined(row))
        backwards = " ".join(SIX[::-1])
        self.assert_reads(f"( ring {backwards} )", SIX, lambda *row: makes_ring(row[::-1]))
        self.assert_reads(f"( joined {backwards} )", SIX, lambda *row: makes_joined(row[::-1]))


class Within(Case):
    def test_forms_within_forms(self):
        self.assert_reads(
            "( any ( all a ( not b ) ) ( least 2 b c ( odd a c ) ) )", SIX[:3],
            lambda a, b, c: (a and not b) or b + c + (a ^ c) >= 2)
        self.assert_reads(
            "( table 0110 ( not a ) ( just 1 a b ) )", SIX[:2],
            lambda a, b: (1 - a) != int(a + b == 1))
        self.assert_reads(
            "( odd ( ring a b c d e f ) ( joined a b c d e f ) ( any a f ) )", SIX,
            lambda *row: makes_ring(row) ^ makes_joined(row) ^ bool(row[0] or row[5]))
        self.assert_reads(
            "( joined ( not a ) b ( all a b ) ( table 10 b ) a ( least 0 a ) )", SIX[:2],
            lambda a, b: makes_joined((1 - a, b, a and b, 1 - b, a, 1)))
        self.assert_reads("( not ( not ( not a ) ) )", ["a"], lambda a: not a)

    def test_places_called_like_kinds(self):
        for kind in KINDS:
            self.assert_reads(kind, [kind], lambda place: place)
            self.assert_reads(f"( not {kind} )", [kind], lambda place: not place)
            self.assert_reads(f"( any a {kind} )", ["a", kind], lambda a, place: a or place)
            self.assert_reads(f"( all {kind} {kind} a )", [kind, "a"], lambda place, a: a and place)
            self.assert_reads(f"( least 1 {kind} )", [kind], lambda place: place)
            self.assert_reads(f"( table 10 {kind} )", [kind], lambda place: not place)
        self.assert_reads(
            "( not ( all all ( any not any ) ) )", ["not", "all", "any"],
            lambda a_not, a_all, a_any: not (a_all and (a_not or a_any)))
        self.assert_reads("place", ["place"], lambda place: place)
        self.assert_refused(NoText, "( place )", ["place"])
        self.assert_refused(NoText, "( place a )", ["place", "a"])

    def test_a_kind_that_is_no_place(self):
        for kind in KINDS:
            self.assert_refused(NoPlace, kind, ["a"])
            self.assert_refused(NoPlace, f"( any a {kind} )", ["a"])

    def test_a_long_text(self):
        forms = " ".join(["abcdefgh"] * 1000)
        self.assert_reads(f"( odd {forms} a )", ["a", "abcdefgh"], lambda a, other: a)


def nested(count):
    return "( not " * count + "a" + " )" * count


class Brackets(Case):
    def test_eight_open_are_read(self):
        for count in range(1, 9):
            self.assert_reads(nested(count), ["a"], lambda a: (a + count) % 2)
        self.assert_reads(f"( all {nested(7)} {nested(7)} {nested(7)} )", ["a"], lambda a: not a)

    def test_nine_open_are_refused(self):
        for count in range(9, 13):
            self.assert_refused(NoText, nested(count), ["a"])
        self.assert_refused(NoText, nested(1500), ["a"])
        self.assert_refused(NoText, f"( all a {nested(8)} )", ["a"])
        self.assert_refused(NoText, f"( all {nested(3)} {nested(8)} a )", ["a"])
        self.assert_refused(NoText, nested(9), ["b"])

    def test_many_brackets_side_by_side_are_read(self):
        forms = " ".join([nested(2)] * 30)
        self.assert_reads(f"( all {forms} )", ["a"], lambda a: a)


BROKEN = [
    # no signs, and empty pieces
    "", " ", "  ", " a", "a ", "a  ", "  a", " ( not a )", "( not a ) ", "(  not a )", "( not  a )", "( not a  )",
    "( least  1 a )", "( least 1  a )", "( table  01 a )", "( all a  b )",
    # brackets
    "(", ")", "( )", "( a )", ") a (", "( not a", "not a )", "( not a ) )", "( ( not a ) )", "( not ( not a )",
    "( all a ( any b )", "( all a any b ) )", "(not a)", "( not a)", "(not a )", "( not (a) )", "( not ) a", "a )",
    "( a", ") not a )", "( not a ( ", "( not a (", "((", "( (", "[ not a ]", "( all a b ) )",
    # kinds
    "( foo a )", "( nor a b )", "( Not a )", "( NOT a )", "( nota a )", "( no a )", "( 1 a )", "( ~ a )", "( a b )",
    "( a not )", "( not", "( all", "( table", "( least",
    # forms: none, too few, too many, or no form
    "( not )", "( all )", "( any )", "( odd )", "( least 1 )", "( just 0 )", "( table 01 )", "( table 1 )",
    "( table )", "( least )", "( just )", "( ring )", "( joined )", "( not a b )", "( not a a )",
    "( ring a b a b a )", "( ring a b a b a b a )", "( joined a b a b a )", "( joined a b a b a b a )",
    "( table 00000000000000000000000000000000 a b a b a )", "( all a 1 )", "( any 0 a )", "( odd 1 )",
    "( not 0 )", "0", "1", "( all a b~ )", "( all a B )", "( all A b )", "( any a_ )", "( any ninelette )",
    "ninelette", "A", "a1", "-a", "( ring a b a b a 1 )",
    # numbers
    "( least a )", "( just a b )", "( least 00 a )", "( least 01 a )", "( least 09 a )", "( just 00 a )",
    "( just 01 a )", "( least 100 a )", "( least 001 a )", "( just 010 a )", "( least -1 a )", "( least +1 a )",
    "( least 1. a )", "( least 1a a )", "( least a1 a )", "( least a 1 )", "( least 1 1 a )", "( least ( not a ) )",
    "( least ( a )", "( just ) a )", "( least 1_ a )", "( least x1 a )",
    # tables
    "( table 0 a )", "( table 1 a )", "( table 011 a )", "( table 0110 a )", "( table 01 a b )", "( table 011 a b )",
    "( table 01101 a b )", "( table 0110 a b a )", "( table 01101001 a b )", "( table 0110100 a b a )",
    "( table 0110100101101001 a b a )", "( table 011010010110100 a b a b )", "( table 01101001 a b a b )",
    "( table 02 a )", "( table 0a a )", "( table ab a )", "( table a )", "( table a 01 )", "( table 01 01 a )",
    "( table ( not a ) )", "( table -1 a )", "( table 0. a )",
    "a 0", "( not a ) 1", "a (", "a (a)",
]
TWO_FORMS = ["a b", "a a", "( not a ) b", "a ( not a )", "( not a ) ( not a )", "a not", "not a"]


class Refused(Case):
    def test_broken_texts(self):
        for text in BROKEN + TWO_FORMS:
            self.assert_refused(NoText, text, ["a", "b"])

    def test_every_other_sign_in_a_table_a_number_and_a_word(self):
        for sign in EVERY_SIGN:
            if sign not in "01":
                self.assert_refused(NoText, f"( table 0{sign} a )", ["a"])
                self.assert_refused(NoText, f"( table {sign}1 a )", ["a"])
            if sign not in "0123456789":
                self.assert_refused(NoText, f"( least {sign} a )", ["a"])
                self.assert_refused(NoText, f"( least 1{sign} a )", ["a"])
                self.assert_refused(NoText, f"( just {sign}1 a )", ["a"])
            if sign not in "abcdefghijklmnopqrstuvwxyz":
                self.assert_refused(NoText, f"a{sign}", ["a"])
                self.assert_refused(NoText, f"( any a {sign}a )", ["a"])

    def test_broken_texts_with_a_strange_word(self):
        for text in BROKEN:
            self.assert_refused(NoText, f"( all zz {text} )", ["a", "b"])
            self.assert_refused(NoText, f"( all {text} zz )", ["a", "b"])
        for text in BROKEN + TWO_FORMS:
            self.assert_refused(NoText, text, ["c"])
            self.assert_refused(NoText, f"zz {text}", ["a", "b"])

    def test_a_strange_word(self):
        for text in ("zz", "( not zz )", "( all a zz )", "( all zz a )", "( least 1 a zz )", "( table 0110 zz a )",
                     "( ring a a a a a zz )", "( not ( not ( not zz ) ) )", "( any zz yy xx )", "( just 9 zz )",
                     "aa", "ab", "zzzzzzzz", nested(8).replace("a", "zz"), "( odd b ( all a b ) ( any b zz ) )"):
            self.assert_refused(NoPlace, text, ["a", "b"])

    def test_a_strange_word_and_no_form_whichever_stands_first(self):
        for text in ("( all zz ( not ) )", "( all ( not ) zz )", "( all zz a", "zz )", "zz a", "a zz", "( zz a )",
                     "( not zz a )", "( not a zz )", "( least zz a )", "( least zz )", "( table zz a )",
                     "( table 011 zz )", "( table 01 zz a )", "( ring zz )", "( any zz Bb )", "( any Bb zz )",
                     "( least 01 zz )", "( all zz  a )", "zz ", " zz", nested(9).replace("a", "zz"),
                     f"( all zz {nested(8)} )", f"( all {nested(8)} zz )"):
            self.assert_refused(NoText, text, ["a", "b"])

    def test_the_faults_of_the_places_go_first(self):
        for text in ("a", "( not a )", "", "( not", "zz", "( all zz", nested(9)):
            self.assert_refused(WrongSize, text, [])
            self.assert_refused(WrongSize, text, ["a", "b", "c", "d", "e", "f", "g"])
            self.assert_refused(WrongSize, text, ["A"] * 7)
            for wrong in ("", "ninelette", "A", "a1", " ", "a b", "("):
                self.assert_refused(NoWord, text, [wrong])
                self.assert_refused(NoWord, text, ["a", wrong])
            self.assert_refused(Twice, text, ["a", "b", "a"])
            self.assert_refused(Twice, text, ["a", "a", "A"])
            self.assert_refused(NoWord, text, ["a", "A", "a"])


def is_form(text):
    # Innermost brackets are taken for a word, again and again, until nothing is left to be taken so.
    word = "[a-z]{1,8}"
    number = "(?:[0-9]|[1-9][0-9])"
    kinds = [
        f"not {word}", f"(?:all|any|odd)(?: {word})+", f"(?:least|just) {number}(?: {word})+",
        f"table [01]{{2}} {word}", f"table [01]{{4}}(?: {word}){{2}}",
        f"(?:ring|joined)(?: {word}){{6}}",
    ]
    innermost = re.compile(r"(?<![^ ])\( (?:" + "|".join(kinds) + r") \)(?![^ ])")
    while innermost.search(text):
        text = innermost.sub("a", text)
    return re.fullmatch(word, text) is not None


class EveryShortText(Case):
    def test_every_text_of_few_pieces(self):
        for count in range(1, 6):
            for pieces in itertools.product(["(", ")", "not", "any", "least", "table", "a", "1", "01"], repeat=count):
                self.assert_read_or_refused(" ".join(pieces))

    def test_every_text_with_one_piece_lacking_or_put_in(self):
        text = "( any ( table 0110 a ( not a ) ) ( least 2 a a ) ( ring a a a a a a ) )"
        pieces = text.split(" ")
        self.assertTrue(is_form(text))
        for spot in range(len(pieces) + 1):
            self.assert_read_or_refused(" ".join(pieces[:spot] + pieces[spot + 1:]))
            for piece in ["(", ")", "not", "a", "1", "01", "0", ""]:
                self.assert_read_or_refused(" ".join(pieces[:spot] + [piece] + pieces[spot:]))
                self.assert_read_or_refused(" ".join(pieces[:spot] + [piece] + pieces[spot + 1:]))

    def assert_read_or_refused(self, text):
        places = ["a", "not", "any", "least", "table", "ring"]
        if is_form(text):
            self.assertEqual(len(question_read(text, places)[1]), 64)
            self.assert_refused(NoPlace, text, ["zz"])
        else:
            self.assert_refused(NoText, text, places)
            self.assert_refused(NoText, text, ["zz"])


class Shown(Case):
    def test_sign_by_sign(self):
        for places, answers, wanted in (
            (["a"], [0, 1], "( any ( all a ) )"),
            (["a"], [1, 0], "( any ( all ( not a ) ) )"),
            (["a"], [1, 1], "( any ( all ( not a ) ) ( all a ) )"),
            (["rain"], [0, 0], "( all rain ( not rain ) )"),
            (["rain", "wind"], [0, 0, 0, 0], "( all rain ( not rain ) )"),
            (["rain", "wind"], [0, 0, 0, 1], "( any ( all rain wind ) )"),
            (["rain", "wind"], [0, 1, 1, 0], "( any ( all ( not rain ) wind ) ( all rain ( not wind ) ) )"),
            (["all", "not"], [1, 0, 0, 1], "( any ( all ( not all ) ( not not ) ) ( all all not ) )"),
            (["c", "b", "a"], [0, 0, 0, 1, 0, 0, 0, 0], "( any ( all ( not c ) b a ) )"),
            (SIX, [0] * 64, "( all a ( not a ) )"),
            (SIX, [0] * 62 + [1, 0], "( any ( all a b c d e ( not f ) ) )"),
        ):
            told = question_shown(question_made(places, answers))
            self.assertEqual(told, wanted)
            self.assertIs(type(told), str)

    def test_read_again_it_is_the_question(self):
        for many in (1, 2, 3):
            for answers in itertools.product((0, 1), repeat=2 ** many):
                self.assert_read_again(question_made(SIX[:many], list(answers)))
        for many in (4, 5, 6):
            for seed in range(1, 20):
                answers = [seed * (number + 2) * (number + 5) // 7 % 2 for number in range(2 ** many)]
                self.assert_read_again(question_made(SIX[:many], answers))
            self.assert_read_again(question_made(SIX[:many], [0] * 2 ** many))
            self.assert_read_again(question_made(SIX[:many], [1] * 2 ** many))

    def test_places_called_like_kinds_and_long_ones(self):
        for places in (KINDS[:6], KINDS[3:], ["abcdefgh", "bbbbbbbb", "cccccccc", "dddddddd", "eeeeeeee", "ffffffff"]):
            self.assert_read_again(question_made(places, [1] * 64))
            self.assert_read_again(question_made(places, [0, 1, 1, 0] * 16))

    def assert_read_again(self, question):
        self.assertEqual(question_read(question_shown(question), list(question[0])), question)
        self.assertEqual(question_read(question_shown(question), question[0]), question)


class HandedIn(Case):
    def test_the_places_stay_and_may_be_changed(self):
        places = ["a", "b"]
        told = question_read("( any a b )", places)
        self.assertEqual(places, ["a", "b"])
        places[0] = "b"
        places.append("c")
        self.assertEqual(told, (("a", "b"), (0, 1, 1, 1)))

    def test_places_stay_where_the_text_is_refused(self):
        places = ["a", "b"]
        self.assert_refused(NoText, "( any a b", places)
        self.assert_refused(NoPlace, "( any a c )", places)
        self.assertEqual(places, ["a", "b"])


if __name__ == "__main__":
    unittest.main()
