"""The words of texts: numbers, and names that are a letter and a number."""

MOST_DIGITS = 6


def is_number(word):
    """Tell whether a word is a number as texts write it."""
    if not word.isdigit() or len(word) > MOST_DIGITS:
        return False
    return word == "0" or not word.startswith("0")


def is_name(word, letter):
    """Tell whether a word is this letter and a number."""
    return word.startswith(letter) and is_number(word[1:])


def number_of(name):
    """Return the number of a name: 3 for `s3`."""
    return int(name[1:])
