"""What words, names, numbers and lists are, and all ways to choose from lists."""

LETTERS = "abcdefghijklmnopqrstuvwxyz"
DIGITS = "0123456789"
WORD_SIGNS = "abcdefghijklmnopqrstuvwxyz0123456789"
MOST_SIGNS = 12


def is_list(value):
    """Whether the value can stand where a list is asked for: a tuple can, too."""
    return isinstance(value, (list, tuple))


def is_number(value):
    """Whether the value is an integer; True and False are none."""
    return isinstance(value, int) and not isinstance(value, bool)


def is_sign_of(sign, signs):
    """Whether sign is one of the signs; the empty string, which is no sign, is none."""
    return sign != "" and sign in signs


def is_run(value):
    """Whether the value is a string of 1 to 12 signs that may stand in a word."""
    if not isinstance(value, str) or not 1 <= len(value) <= MOST_SIGNS:
        return False
    return all([sign in WORD_SIGNS for sign in value])


def is_word(value):
    """Whether the value is a word by point 0.3."""
    return is_run(value) and value[0] in LETTERS


def is_name(value):
    """Whether the value is a word or a made name by point S2.1."""
    if is_word(value):
        return True
    if not isinstance(value, str):
        return False
    word, _, number = value.partition(".")
    return is_word(word) and is_short_number(number)


def is_short_number(text):
    """Whether the text is a number from 0 to 999 without leading zeros."""
    if not 1 <= len(text) <= 3 or not all([sign in DIGITS for sign in text]):
        return False
    return text == "0" or text[0] != "0"


def is_known(table, name):
    """Whether the name, any value, is a string that is a key of the dict."""
    return isinstance(name, str) and name in table


def ways(lists):
    """The list of the tuples with an entry of each list, in order, the first place changing last."""
    rows = [()]
    for entries in lists:
        rows = [row + (entry,) for row in rows for entry in entries]
    return rows
