"""Texts read as pieces, what stands between their blanks, and the words among the pieces."""

LETTERS = "abcdefghijklmnopqrstuvwxyz"
LONGEST_WORD = 8


def is_word(piece):
    return len(piece) >= 1 and len(piece) <= LONGEST_WORD and is_made_of(piece, LETTERS)


def is_made_of(piece, signs):
    return all([sign in signs for sign in piece])


class Pieces:
    def __init__(self, text):
        self.standing = text.split(" ")
        self.spot = 0

    def ahead(self):
        # An empty piece means nothing wherever it stands, so it serves for the end of the text too.
        if self.spot < len(self.standing):
            return self.standing[self.spot]
        return ""

    def taken(self):
        piece = self.ahead()
        self.spot = self.spot + 1
        return piece

    def all_taken(self):
        return self.spot >= len(self.standing)
