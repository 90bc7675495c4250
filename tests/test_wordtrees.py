"""Word trees: [13], [56], and the guarantees on them in [3]."""

import unittest

from hoproads.errors import InvalidWord, InvalidWordTree
from hoproads.stairlists import count_tables
from hoproads.words import ordered, word_row
from hoproads.wordtrees import count_word_trees, is_word_tree, least_depth, tree_depth, tree_ends, word_tree
from tests.support import BIG, STRAYS, check_arguments, check_error, check_too_many
from tests.test_words import WRONG_WORDS, words_up_to

X = (0, (), (), ())

# none of these is a word tree of the word DDE, nor of DE
NO_TREES = [value for value in STRAYS] + [
    (), [], ["x"], list(X), (0,), (0, ()), (0, (), ()), (0, (), (), (), ()), (False, (), (), ()), (True, X, (), X),
    (1, [0, (), (), ()], (), X), (1, X, [], X), (1, X, (), list(X)), (1, X, X, X), (1, (), (), X), (1, X, (), ()),
    (1, (False, (), (), ()), (), X), (1, X, (), (False, (), (), ())), (1, X, (), (1, (), (), ())), (2, X, (), X),
    (-1, X, (), X), (0, X, (), X), (BIG, X, (), X), (None, X, (), X), ("1", X, (), X), (1, None, (), X), (1, X, (), X, ()),
    (1, X, None, X), (1, X, 0, X), (1, X, "", X), ((1, X, (), X),), ((1,), X, (), X),
]


def trees_told(word):
    """All word trees of a word, one after another."""
    places = [place for place in range(len(word)) if word[place:place + 2] == "DE"]
    if not places:
        return [()]
    found = []
    for place in places:
        ahead, behind = word[:place], word[place + 2:]
        for bent in trees_told(ahead + "ED" + behind):
            for car in trees_told(ahead + "D" + behind):
                for gap in trees_told(ahead + "E" + behind):
                    found.append((place, bent, car, gap))
    return found


def last_tree(word):
    """The word tree of a word of any length that changes it at the last place."""
    place = word.rfind("DE")
    if place < 0:
        return ()
    ahead, behind = word[:place], word[place + 2:]
    return (place, last_tree(ahead + "ED" + behind), last_tree(ahead + "D" + behind), last_tree(ahead + "E" + behind))


def ends_told(word, tree, bent=0):
    if tree == ():
        return [(word.count("E"), word.count("D"), bent)]
    place = tree[0]
    ahead, behind = word[:place], word[place + 2:]
    return (ends_told(ahead + "ED" + behind, tree[1], bent + 1) + ends_told(ahead + "D" + behind, tree[2], bent)
            + ends_told(ahead + "E" + behind, tree[3], bent))


def pairs_of(word):
    """How many pairs of a D and an E behind it a word has."""
    letters = range(len(word))
    return sum(1 for one in letters for other in letters if one < other and word[one] == "D" and word[other] == "E")


class Trees(unittest.TestCase):
    def test_all_trees_of_short_words(self):
        for word in words_up_to(4) + ["DDDEE"[1:], "DEEDE", "EDDEE"]:
            trees = trees_told(word)
            self.assertEqual(count_word_trees(word), len(trees))
            self.assertIn(word_tree(word), trees)
            for tree in trees:
                self.assertIs(is_word_tree(word, tree), True)
                self.assertEqual(tree_ends(word, tree), ends_told(word, tree))
                self.assertEqual(tree_depth(word, tree), pairs_of(word))
            self.assertEqual(least_depth(word), pairs_of(word))

    def test_a_tree_of_another_word_is_none(self):
        for one in words_up_to(3):
            for other in words_up_to(3):
                for tree in trees_told(one):
                    self.assertIs(is_word_tree(other, tree), tree in trees_told(other))

    def test_what_is_none(self):
        self.assertIs(is_word_tree("DDE", (1, X, (), X)), True)
        for value in NO_TREES:
            self.assertIs(is_word_tree("DDE", value), False, value)
            self.assertIs(is_word_tree("DE", value), False, value)
        for value in [some for some in NO_TREES if some != ()] + [X]:
            self.assertIs(is_word_tree("EEDD", value), False, value)
            self.assertIs(is_word_tree("", value), False, value)
        self.assertIs(is_word_tree("", ()), True)

    def test_words_of_6_letters(self):
        for word in words_up_to(6):
            for tree in (word_tree(word), last_tree(word)):
                self.assertIs(is_word_tree(word, tree), True)
                ends = tree_ends(word, tree)
                told = {}
                for end in ends:
                    told[end] = told.get(end, 0) + 1
                self.assertEqual(tuple(sorted(end + (many,) for end, many in told.items())), ordered(word))
                self.assertEqual(tree_depth(word, tree), pairs_of(word))
                if word:
                    self.assertEqual(len(ends), count_tables(word_row(word)))
            self.assertEqual(least_depth(word), pairs_of(word))

    def test_counts(self):
        def told(word, known):
            if word not in known:
                known[word] = 0 if "DE" in word else 1
                for place in range(len(word)):
                    if word[place:place + 2] == "DE":
                        ahead, behind = word[:place], word[place + 2:]
                        known[word] += (told(ahead + "ED" + behind, known) * told(ahead + "D" + behind, known)
                                        * told(ahead + "E" + behind, known))
            return known[word]
        for word in words_up_to(6):
            self.assertEqual(count_word_trees(word), told(word, {}))


class Wrong(unittest.TestCase):
    def test_errors_in_order(self):
        words = ("DDE", InvalidWord, WRONG_WORDS)
        for function in (word_tree, count_word_trees, least_depth):
            check_arguments(self, function, words)
        check_arguments(self, is_word_tree, words, (X, None, [None]))
        for function in (tree_ends, tree_depth):
            check_arguments(self, function, words, ((1, X, (), X), InvalidWordTree, NO_TREES))

    def test_too_many_letters_come_at_last(self):
        for word in ("DEDEDED", "EEEDDDD", "DDDEEEE", "D" * 12, "E" * 11 + "D"):
            for function in (word_tree, count_word_trees, least_depth):
                check_too_many(self, 6, function, word)
            for value in (last_tree(word), None, ()):
                check_too_many(self, 6, is_word_tree, word, value)
            for function in (tree_ends, tree_depth):
                check_too_many(self, 6, function, word, last_tree(word))
                check_error(self, InvalidWordTree, function, (word, X))
                check_error(self, InvalidWordTree, function, (word, None))
        check_error(self, InvalidWordTree, tree_ends, ("DEDEDED", ()))
        check_error(self, InvalidWordTree, tree_depth, ("DE" * 6, ()))
        check_error(self, InvalidWord, is_word_tree, ("D" * 13, ()))


if __name__ == "__main__":
    unittest.main()
