"""Letters, sets of letters and words."""

from neverturns.errors import InvalidNumber, InvalidOperation, InvalidWord

MAX_LETTERS = 2
ALPHABET = "abcdefghijklmnopqrstuvwxyz"
LONGEST_LISTED = 8
MOST_REPEATED = 60


def is_between(value, low, high):
    """Tell whether the value is an integer from low to high."""
    if isinstance(value, bool) or not isinstance(value, int):
        return False
    return low <= value <= high


def is_natural(value):
    """Tell whether the value is an integer of at least 0."""
    return isinstance(value, int) and not isinstance(value, bool) and value >= 0


def is_word(value):
    """Tell whether the value is a word."""
    if not isinstance(value, str):
        return False
    return has_only(value, ALPHABET)


def has_only(word, letters):
    """Tell whether each letter of the word is one of the letters."""
    return all([letter in letters for letter in word])


def is_letters(value):
    """Tell whether the value is a set of letters."""
    if not is_word(value) or not 1 <= len(value) <= MAX_LETTERS:
        return False
    return all([low < high for low, high in zip(value, value[1:])])


def check_word(value):
    """Raise InvalidWord if the value is no word."""
    if not is_word(value):
        raise InvalidWord("this is no word")


def check_only(word, letters):
    """Raise InvalidOperation if the word has a letter that is none of the letters."""
    if not has_only(word, letters):
        raise InvalidOperation("the word has a letter that is not in the set")


def all_words(letters, most):
    """Yield all words of at most so many letters of a set, the first one first."""
    if not is_letters(letters):
        raise InvalidOperation("this is no set of letters")
    if not is_between(most, 0, LONGEST_LISTED):
        raise InvalidNumber(most)
    row = [""]
    for _ in range(most + 1):
        yield from row
        row = [word + letter for word in row for letter in letters]


def power(word, times):
    """Return the word repeated."""
    check_word(word)
    if not is_between(times, 0, MOST_REPEATED):
        raise InvalidNumber(times)
    return word * times


def root(word):
    """Return the shortest word that makes the word if it is repeated."""
    check_word(word)
    for size in range(1, len(word) // 2 + 1):
        if len(word) % size == 0 and word[:size] * (len(word) // size) == word:
            return word[:size]
    return word


def exponent(word):
    """Return how often the root of the word must be repeated to make it."""
    part = root(word)
    if part == "":
        return 0
    return len(word) // len(part)


def are_powers(one, other):
    """Tell whether some word makes each of both if it is repeated."""
    check_word(one)
    check_word(other)
    return one + other == other + one
