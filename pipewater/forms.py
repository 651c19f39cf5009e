"""The forms of a text's lines: bytes into signs, words, and what a word may be."""

from pipewater.directions import is_direction

DIGITS = "0123456789"
NAME_SIGNS = "abcdefghijklmnopqrstuvwxyz0123456789"
KNOWN_SIGNS = "abcdefghijklmnopqrstuvwxyz0123456789- \n"
UNKNOWN_SIGN = "?"

MOST_DIGITS = 6
LONGEST_NAME = 16
LARGEST_RADIUS = 2000
LONGEST_PIPE = 100000
FARTHEST = 100000

ENDS = ("open", "cap", "drain", "source")

FORMS = {
    "size": ("num",),
    "from": ("name", "int", "int", "int"),
    "at": ("name",),
    "go": ("direction", "num"),
    "node": ("name",),
    "valve": ("name",),
    "to": ("name",),
    "end": ("end",),
}


def text_of(numbers):
    """The bytes as a text; those that no form has are all one sign that no form has."""
    signs = [UNKNOWN_SIGN] * 256
    for sign in KNOWN_SIGNS:
        signs[ord(sign)] = sign
    return "".join([signs[number] for number in numbers])


def all_among(word, signs):
    return all([sign in signs for sign in word])


def is_num(word):
    if len(word) < 1 or len(word) > MOST_DIGITS or not all_among(word, DIGITS):
        return False
    return word == "0" or word[0] != "0"


def is_int(word):
    if word.startswith("-"):
        return is_num(word[1:]) and word != "-0"
    return is_num(word)


def is_name(word):
    return len(word) >= 1 and len(word) <= LONGEST_NAME and all_among(word, NAME_SIGNS)


def has_form(word, form):
    if form == "num":
        return is_num(word)
    if form == "int":
        return is_int(word)
    if form == "name":
        return is_name(word)
    if form == "direction":
        return is_direction(word)
    return word in ENDS


def is_line(words):
    """Whether the words are of one of the eight forms."""
    if words[0] not in FORMS:
        return False
    forms = FORMS[words[0]]
    if len(words) != len(forms) + 1:
        return False
    return all([has_form(word, form) for word, form in zip(words[1:], forms)])


def within_bounds(words):
    """Whether the numbers of a line that has a form are within what they may be."""
    if words[0] == "size":
        return 1 <= int(words[1]) <= LARGEST_RADIUS
    if words[0] == "go":
        return 1 <= int(words[2]) <= LONGEST_PIPE
    if words[0] == "from":
        return all([abs(int(word)) <= FARTHEST for word in words[2:]])
    return True
