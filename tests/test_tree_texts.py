import unittest

from plain import TWELVE, Draws, check_raises, finds_in, grown_lots, grown_text, more_values, numbered
from threeorders.errors import InvalidText
from threeorders.names import is_name
from threeorders.trees import Tree

SIGNS = "abz ()[]\nA"


def told(text, at):
    """The grown tree that begins at a place of a text, and the place behind it; None if there is none."""
    if text[at:at + 1] not in ("(", "["):
        end = at
        while text[end:end + 1] not in ("", " ", ")", "]", "(", "["):
            end += 1
        return (text[at:end], end) if is_name(text[at:end]) else None
    children = []
    place = at + 1
    while True:
        child = told(text, place)
        if child is None:
            return None
        children.append(child[0])
        place = child[1] + 1
        if text[child[1]:place] != " ":
            break
    if text[place - 1:place] != {"(": ")", "[": "]"}[text[at]]:
        return None
    return ("loose" if text[at] == "(" else "row", children), place


def shapes_are_right(growth):
    if isinstance(growth, str):
        return True
    fewest = 2 if growth[0] == "loose" else 3
    return len(growth[1]) >= fewest and all(shapes_are_right(child) for child in growth[1])


def is_told(text):
    """Whether a string is the text of a tree."""
    found = told(text, 0)
    if found is None or found[1] != len(text) or not shapes_are_right(found[0]):
        return False
    finds = finds_in(found[0])
    return len(set(finds)) == len(finds) <= 12 and grown_text(numbered(found[0])) == text


class ReadTest(unittest.TestCase):
    def check_refused(self, value):
        check_raises(self, InvalidText(0, "form"), Tree.read, value)

    def test_texts_of_trees(self):
        for text in ("a", "abcdef", "(a b)", "(a b c)", "[a b c]", "([a (b c) d] e)", "[b a c]", "[a c b]", "(ab b)",
                     "[(a b) c (d e)]", "(" + " ".join(TWELVE) + ")", "[" + " ".join(TWELVE) + "]", "([a b c] [d e f])"):
            self.assertEqual(Tree.read(text).text(), text)
            self.assertEqual(Tree.read(text=text), Tree.read(text))
            self.assertIs(is_told(text), True)

    def test_trees_behind_texts(self):
        self.assertEqual(Tree.read("([a (b c) d] e)"), Tree(list("abcde"), [("a", "b", "c"), ("b", "c", "d")]))
        self.assertEqual(Tree.read("q"), Tree(["q"]))
        self.assertEqual(Tree.read("[b a c]"), Tree(["a", "b", "c"], [("a", "b"), ("a", "c")]))
        self.assertEqual(Tree.read("[b a c]").children(("a", "b", "c")), [("b",), ("a",), ("c",)])

    def test_wrong_texts(self):
        for text in (
            "", " ", "\n", "a\n", " a", "a ", "A", "abcdefg", "a1", "(a)", "[a]", "[a b]", "(b a)", "[c b a]", "[b c a]",
            "a b", "(a b", "a b)", "(a b]", "[a b c)", "((a b))", "(a  b)", "( a b)", "(a b )", "(a b) ", "(a b)\n",
            "(a b)(c d)", "(a b) c", "()", "[]", "(", ")", "[", "]", ")(", "(a(b c))", "(a (b c)d)", "(a a)", "(a (a b))",
            "(a b c a)", "((b c) a)", "[(a c) b]", "[c (a b) d e b]", "(a, b)", "(a\nb)", "((a b) (a c))", "(a ())",
            "(" + " ".join(TWELVE) + " m)", "[" + " ".join(TWELVE) + " m]", "(((a b) c)", "(a b))", "(a [b c])", "None",
            "(" * 12000, ")" * 12000, "(" * 6000 + ")" * 6000, "a" * 12000, "a " * 6000, "(" * 4000 + "a" + ")" * 4000,
        ):
            self.check_refused(text)
            self.assertIs(len(text) < 1000 and is_told(text), False)

    def test_any_values(self):
        for value in more_values():
            if value not in ("a", "abcdef", "before", "(a b)"):
                self.check_refused(value)
        for value in (["a"], ("(a b)",), [["(a b)"]], 5, None, True, b"a"):
            self.check_refused(value)

    def test_texts_with_something_changed(self):
        draws = Draws(17)
        many = [0, 0]
        for _ in range(4000):
            text = list(grown_text(numbered(draws.growth(TWELVE[:1 + draws.below(7)]))))
            for _ in range(1 + draws.below(2)):
                at = draws.below(len(text) + 1)
                change = draws.below(4)
                if change == 0:
                    text.insert(at, SIGNS[draws.below(len(SIGNS))])
                elif change == 1:
                    text[at:at + 1] = []
                elif change == 2:
                    text[at:at + 1] = SIGNS[draws.below(len(SIGNS))]
                else:
                    other = draws.below(len(text) + 1)
                    text[at:at + 1], text[other:other + 1] = text[other:other + 1], text[at:at + 1]
            text = "".join(text)
            right = is_told(text)
            many[right] += 1
            if right:
                self.assertEqual(Tree.read(text).text(), text)
            else:
                self.check_refused(text)
        self.assertTrue(min(many) > 200, many)

    def test_children_that_stand_otherwise(self):
        draws = Draws(19)
        many = [0, 0]
        for _ in range(500):
            growth = draws.growth(TWELVE[:2 + draws.below(11)])
            right = numbered(growth) == growth
            many[right] += 1
            if right:
                self.assertEqual(Tree.read(grown_text(growth)), Tree(finds_in(growth), grown_lots(growth)))
            else:
                self.check_refused(grown_text(growth))
        self.assertTrue(min(many) > 30, many)


if __name__ == "__main__":
    unittest.main()
