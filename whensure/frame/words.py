"""The words of a line of a frame's text, and the shapes that they must have."""

LETTERS = "abcdefghijklmnopqrstuvwxyz"
DIGITS = "0123456789"
SIGNS_OF_A_NAME = 12
DIGITS_OF_A_NUMBER = 12

# A word in capitals stands for any word of that sort: no word of the table has capitals.
SHAPES = {
    "device": (("device", "NAME"),),
    "clock": (
        ("clock", "NAME", "of", "NAME"),
        ("clock", "NAME", "of", "NAME", "goes", "on", "asleep"),
    ),
    "link": (("link", "NAME", "from", "NAME", "to", "NAME"),),
    "source": (("source", "NAME", "at", "NAME"),),
    "faults": (("faults", "DIGITS"),),
}
KIND_SHAPES = {
    "clock": (("kind", "NAME", "NUMBER", "NUMBER"),),
    "link": (("kind", "NAME", "NUMBER", "MOST"),),
    "source": (("kind", "NAME", "NUMBER", "NUMBER"),),
}


def words_of(line):
    """Return the list of the words of a line."""
    said = line.split("#")[0]
    return [word for word in said.split(" ") if word]


def is_name(word):
    """Tell if a word is a name."""
    signs = LETTERS + DIGITS
    return word[0] in LETTERS and len(word) <= SIGNS_OF_A_NAME and all([sign in signs for sign in word])


def is_digits(word):
    """Tell if a word consists of as many digits as a number may have."""
    return 1 <= len(word) <= DIGITS_OF_A_NUMBER and all([sign in DIGITS for sign in word])


def is_number(word):
    """Tell if a word is a number."""
    return is_digits(word.removeprefix("-"))


def word_fits(word, wanted):
    """Tell if a word is one that the shape wants there."""
    if wanted == "NAME":
        return is_name(word)
    if wanted == "NUMBER":
        return is_number(word)
    if wanted == "MOST":
        return word == "none" or is_number(word)
    if wanted == "DIGITS":
        return is_digits(word)
    return word == wanted


def words_fit(words, shape):
    """Tell if words have the shape."""
    if len(words) != len(shape):
        return False
    return all([word_fits(word, wanted) for word, wanted in zip(words, shape)])


def number_of(word):
    """Return the number that a word says, or None for `none`."""
    return None if word == "none" else int(word)
