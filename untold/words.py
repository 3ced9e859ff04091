"""The words of sheets."""

from untold.errors import BadProgram

LETTERS = "abcdefghijklmnopqrstuvwxyz"
DIGITS = "0123456789"
SIGNS = ("=", "+", "-", "*", "(", ")")
# They are made of letters, but are no names.
KEYWORDS = ("input", "show", "to", "next")
MOST_LETTERS = 8
MOST_DIGITS = 5


def is_numeral(word):
    """Whether a word is a number of 1 to 5 digits without zeros in front."""
    if not 1 <= len(word) <= MOST_DIGITS or not all([sign in DIGITS for sign in word]):
        return False
    return word == "0" or word[0] != "0"


def is_lettered(word):
    """Whether a word is made of 1 to 8 letters."""
    return 1 <= len(word) <= MOST_LETTERS and all([sign in LETTERS for sign in word])


def is_name(word):
    """Whether a word is a name."""
    return is_lettered(word) and word not in KEYWORDS


def pieces(line):
    """The signs of a line, and the letters and digits that stand together, from the left."""
    spaced = line
    for sign in SIGNS:
        spaced = spaced.replace(sign, f" {sign} ")
    return tuple([piece for piece in spaced.split(" ") if piece])


def words_of(line, number):
    """The tuple of the words of a line; raises BadProgram with its number."""
    for sign in line:
        if sign not in LETTERS and sign not in DIGITS and sign not in SIGNS and sign != " ":
            raise BadProgram(number, "unknown sign")
    words = pieces(line)
    for word in words:
        if word not in SIGNS and not is_lettered(word) and not is_numeral(word):
            raise BadProgram(number, "unknown word")
    return words
