"""Word trees: all ways to put a word in order, change by change."""

from hoproads.errors import InvalidWordTree
from hoproads.plain import check_most, is_integer
from hoproads.words import changes_of, check_word, words_from

MOST_LETTERS_OF_TREES = 6


def is_tree_of(word, value):
    """Whether any value is a word tree of a word of any length."""
    places = changes_of(word)
    if not isinstance(value, tuple) or len(value) != (4 if places else 0):
        return False
    if places == []:
        return True
    if not is_integer(value[0]) or value[0] not in places:
        return False
    words = words_from(word, value[0])
    # one after another, so that a wrong branch ends the walk through the tree
    for at, some in enumerate(words):
        if not is_tree_of(some, value[at + 1]):
            return False
    return True


def is_word_tree(word, value):
    """Whether any value is a word tree of a word."""
    check_word(word)
    check_most(len(word), MOST_LETTERS_OF_TREES)
    return is_tree_of(word, value)


def check_tree(word, tree):
    """Raise the errors for what is no word, no word tree of it, or too long."""
    check_word(word)
    if not is_tree_of(word, tree):
        raise InvalidWordTree("a word tree of the word is asked for")
    check_most(len(word), MOST_LETTERS_OF_TREES)


def first_tree(word):
    """The word tree of a word that changes it at the first place at which it can be changed."""
    places = changes_of(word)
    if places == []:
        return ()
    return (places[0],) + tuple([first_tree(some) for some in words_from(word, places[0])])


def word_tree(word):
    """Any word tree of a word."""
    check_word(word)
    check_most(len(word), MOST_LETTERS_OF_TREES)
    return first_tree(word)


def count_trees(word, counts):
    """How many word trees a word has, put down for it, and for all words that come of it, in a dict."""
    places = changes_of(word)
    total = 1 if places == [] else 0
    for place in places:
        ways = 1
        for some in words_from(word, place):
            if some not in counts:
                counts[some] = count_trees(some, counts)
            ways = ways * counts[some]
        total = total + ways
    return total


def count_word_trees(word):
    """How many word trees a word has."""
    check_word(word)
    check_most(len(word), MOST_LETTERS_OF_TREES)
    return count_trees(word, {})


def ends_behind(word, tree, bent):
    """The list of the ends of a word tree to which a way with so many bent changes has led."""
    if tree == ():
        return [(word.count("E"), word.count("D"), bent)]
    place, bent_tree, car_tree, gap_tree = tree
    bent_word, car_word, gap_word = words_from(word, place)
    of_bent = ends_behind(bent_word, bent_tree, bent + 1)
    return of_bent + ends_behind(car_word, car_tree, bent) + ends_behind(gap_word, gap_tree, bent)


def tree_ends(word, tree):
    """The list of the triples (i, j, x) of all ends of a word tree."""
    check_tree(word, tree)
    return ends_behind(word, tree, 0)


def depth_of(tree):
    """The greatest number of changes on a way through a word tree."""
    if tree == ():
        return 0
    return 1 + max([int(depth_of(branch)) for branch in tree[1:]])


def tree_depth(word, tree):
    """The greatest number of changes on a way to an end of a word tree."""
    check_tree(word, tree)
    return depth_of(tree)


def least_depth(word):
    """The least depth that a word tree of a word has."""
    check_word(word)
    check_most(len(word), MOST_LETTERS_OF_TREES)
    # each bent change takes away just one pair of a D and an E behind it, and no change takes none
    return sum([word[at:].count("E") for at in range(len(word)) if word[at] == "D"])
