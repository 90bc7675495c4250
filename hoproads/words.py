"""Words of the letters D, for a car, and E, for a free place, and how they are put in order."""

from hoproads.errors import InvalidPlace, InvalidWord
from hoproads.plain import is_integer, terms_from
from hoproads.roads import check_row
from hoproads.weights import ONE, row_weight, terms_of_row

MOST_LETTERS = 12


def is_word(value):
    """Whether any value is a word."""
    if not isinstance(value, str) or len(value) > MOST_LETTERS:
        return False
    return all([letter in ("D", "E") for letter in value])


def check_word(word):
    """Raise InvalidWord for what is no word."""
    if not is_word(word):
        raise InvalidWord("a string of at most 12 letters D and E is asked for")


def letters_row(word):
    """The tuple with 1 for each letter D of a word, and 0 for each E."""
    return tuple([1 if letter == "D" else 0 for letter in word])


def terms_of_word(word):
    """The terms that come of a word put in order."""
    return terms_of_row(letters_row(word))


def ordered(word):
    """The ordered sum of a word."""
    check_word(word)
    return terms_from(terms_of_word(word))


def changes_of(word):
    """The ascending list of the places at which a word can be changed."""
    check_word(word)
    return [place for place in range(len(word) - 1) if word[place:place + 2] == "DE"]


def words_from(word, place):
    """The triple of the words that come of a word by a change at a place."""
    ahead = word[:place]
    behind = word[place + 2:]
    return (ahead + "ED" + behind, ahead + "D" + behind, ahead + "E" + behind)


def changed(word, place):
    """The triple of the words, the bent one, that with D, and that with E, that come of a change."""
    check_word(word)
    if not is_integer(place) or place not in changes_of(word):
        raise InvalidPlace("a place at which the word can be changed is asked for")
    return words_from(word, place)


def word_row(word):
    """The row with a car for each D, and a free place for each E, of a word of 1 letter or more."""
    check_word(word)
    if word == "":
        raise InvalidWord("a word of 1 letter or more is asked for")
    return letters_row(word)


def row_word(row):
    """The word of a row."""
    check_row(row)
    return "".join(["D" if item == 1 else "E" for item in row])


def word_weight(word):
    """The weight of the row of a word, 1 for the word without letters."""
    check_word(word)
    if word == "":
        return ONE
    return row_weight(letters_row(word))


def mirrored_word(word):
    """The word read from its end, with its letters changed for one another."""
    check_word(word)
    return "".join(["E" if letter == "D" else "D" for letter in word[::-1]])
