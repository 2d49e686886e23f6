import itertools
import unittest

from plain import MARKS, TWELVE, Draws, check_raises, drawn_case, more_values, orders_of, plain_keeps, plain_orders
from questions import all_questions, is_true, plain_outlook
from threeorders.books import Book
from threeorders.counting import all_orders
from threeorders.errors import CannotStand, Clash, InvalidQuestion
from threeorders.outlooks import holds, is_question, outlook, witness
from threeorders.trees import Tree
from threeorders.webs import Web, web_of


class SmallWebsTest(unittest.TestCase):
    def test_against_all_orders(self):
        draws = Draws(1401)
        told = {}
        for _ in range(150):
            finds, words, facts, _, fitting = drawn_case(draws, 5)
            if not fitting:
                continue
            web = web_of(Book(finds, words), facts)
            for question in all_questions(finds):
                answer = plain_outlook(fitting, question)
                self.assertEqual(outlook(web, question), answer)
                told[question[0], answer] = told.get((question[0], answer), 0) + 1
                self.check_witness(fitting, question, answer, witness(web, question))
        self.assertEqual(len(told), 15, told)
        self.assertTrue(min(told.values()) > 10, told)

    def check_witness(self, fitting, question, answer, pair):
        self.assertIs(type(pair), tuple)
        one, other = pair
        self.assertIs(one is None, answer == "never")
        self.assertIs(other is None, answer == "surely")
        if one is not None:
            self.assertTrue(one in fitting and is_true(one, question))
        if other is not None:
            self.assertTrue(other in fitting and not is_true(other, question))

    def test_holds_in_all_orders(self):
        for finds in ("a", "ab", "abc", "abcd"):
            for question in all_questions(list(finds)):
                for order in orders_of(tuple(finds)):
                    self.assertIs(holds(order, question), is_true(order, question))

    def test_answers_stay_when_words_and_facts_follow(self):
        draws = Draws(1409)
        many = 0
        for _ in range(120):
            finds, words, facts, _, _ = drawn_case(draws, 5)
            webs = [self.web_or_none(finds, words[:more], []) for more in range(len(words))]
            webs += [self.web_or_none(finds, words, facts[:more]) for more in range(len(facts) + 1)]
            for earlier, later in zip(webs, webs[1:]):
                if later is None:
                    break
                for question in all_questions(finds):
                    answer = outlook(earlier, question)
                    if answer != "ever":
                        many += 1
                        self.assertEqual(outlook(later, question), answer)
        self.assertTrue(many > 1000, many)

    def web_or_none(self, finds, words, facts):
        try:
            return web_of(Book(finds, words), facts)
        except (CannotStand, Clash):
            return None


class ByHandTest(unittest.TestCase):
    def setUp(self):
        self.web = Web(Tree.read("([a (b c) d] e)"), [("m", ("before", "a", "d"))])

    def test_questions_of_each_kind(self):
        for question, answer in (
            (("together", ("b", "c")), "surely"), (("together", ("a", "b")), "ever"), (("together", ("a", "d")), "never"),
            (("before", "b", "d"), "surely"), (("before", "b", "c"), "ever"), (("before", "c", "a"), "never"),
            (("first", "a"), "ever"), (("first", "b"), "never"), (("last", "e"), "ever"), (("last", "a"), "never"),
            (("between", "a", "c", "d"), "surely"), (("between", "d", "c", "a"), "surely"),
            (("between", "a", "b", "c"), "ever"), (("between", "a", "e", "d"), "never"),
        ):
            self.assertEqual(outlook(self.web, question), answer, question)
            one, other = witness(self.web, question)
            self.assertEqual((one is None, other is None), (answer == "never", answer == "surely"), question)

    def test_named_arguments(self):
        self.assertIs(is_question(value=("first", "a"), finds=["a"]), True)
        self.assertIs(holds(question=("first", "a"), order=("a", "b")), True)
        self.assertEqual(outlook(question=("first", "a"), web=self.web), "ever")
        self.assertIsNone(witness(question=("first", "b"), web=self.web)[0])

    def test_a_lot_that_is_surely_together_though_it_is_no_block(self):
        web = Web(Tree(["a", "b", "c"]), [("m", ("before", "a", "b")), ("n", ("before", "a", "c"))])
        self.assertEqual(outlook(web, ("together", ("b", "c"))), "surely")
        self.assertEqual(outlook(web, ("together", ("a", "b"))), "ever")
        self.assertEqual(outlook(web, ("first", "a")), "surely")

    def test_few_finds(self):
        web = Web(Tree(["a"]))
        for question in (("together", ("a",)), ("first", "a"), ("last", "a")):
            self.assertEqual(outlook(web, question), "surely")
            self.assertEqual(witness(web, question), (("a",), None))
        web = Web(Tree(["a", "b"]))
        self.assertEqual(witness(web, ("last", "a")), (("b", "a"), ("a", "b")))
        self.assertEqual(outlook(web, ("together", ("a", "b"))), "surely")

    def test_finds_that_are_called_like_the_words(self):
        finds = ["before", "first", "last", "lot"]
        web = Web(Tree(finds), [("m", ("before", "first", "last"))])
        fitting = plain_orders(finds, [])
        fitting = [order for order in fitting if order.index("first") < order.index("last")]
        for question in all_questions(finds):
            self.assertEqual(outlook(web, question), plain_outlook(fitting, question), question)

    def test_thirty_facts(self):
        facts = [(MARKS[at], ("before", TWELVE[at % 11], TWELVE[at % 11 + 1])) for at in range(30)]
        web = Web(Tree(TWELVE), facts)
        self.assertEqual(witness(web, ("before", "a", "l")), (tuple(TWELVE), None))
        self.assertEqual(witness(web, ("together", ("a", "c"))), (None, tuple(TWELVE)))
        facts = [(mark, ("before", "a", "b")) for mark, _ in facts]
        web = Web(Tree(TWELVE), facts)
        one, other = witness(web, ("together", ("b", "c", "d")))
        self.assertTrue(web.fits(one) and plain_keeps(one, ("b", "c", "d")))
        self.assertTrue(web.fits(other) and not plain_keeps(other, ("b", "c", "d")))

    def test_twelve_children_whose_orders_are_not_listed(self):
        web = Web(Tree(TWELVE), [("m", ("last", "c"))])
        for question in (("between", "a", "b", "l"), ("together", ("d", "e", "k")), ("first", "a"), ("before", "l", "a")):
            self.assertEqual(outlook(web, question), "ever")
            one, other = witness(web, question)
            self.assertTrue(web.fits(one) and is_true(one, question))
            self.assertTrue(web.fits(other) and not is_true(other, question))
        self.assertEqual(outlook(web, ("between", "a", "b", "c")), "ever")
        self.assertEqual(outlook(web, ("between", "a", "c", "b")), "never")
        self.assertEqual(len(list(itertools.islice(all_orders(web), 3))), 3)


class WrongValuesTest(unittest.TestCase):
    def test_no_questions(self):
        web = Web(Tree(["a", "b", "c"]))
        right = [("first", "a"), ("before", "a", "b")]
        for value in [
            *more_values(), ("together", ["a", "b"]), ("together", ("b", "a")), ("together", ("a", "z")), ("together", ()),
            ("together", "a"), ("together", ("a",), ("b",)), ("together", "a", "b"), ("before", "a", "a"), ("before", "a"),
            ("before", "a", "z"), ("before", "a", "b", "c"), ["before", "a", "b"], ("first", "z"), ("first", "a", "b"),
            ("first",), ("first", ("a",)), ("last", None), ["last", "a"], ("between", "a", "b"), ("between", "a", "b", "a"),
            ("between", "a", "a", "b"), ("between", "b", "a", "a"), ("between", "a", "z", "b"), ("between", "a", ["b"], "c"),
            ("never",), ("same", "a", "b"), ("Before", "a", "b"), (("before",), "a", "b"), (["first"], "a"), (None, "a"),
        ]:
            if value in right:
                continue
            self.assertIs(is_question(["a", "b", "c"], value), False, value)
            check_raises(self, InvalidQuestion(), outlook, web, value)
            check_raises(self, InvalidQuestion(), witness, web, value)

    def test_questions_about_lists_of_finds(self):
        for question in all_questions(["a", "b", "c"]):
            for finds in (["c", "a", "b"], ("b", "c", "a")):
                self.assertIs(is_question(finds, question), True)
            self.assertIs(is_question(["d", "e"], question), False)
        self.assertIs(is_question([], ("first", "a")), False)


if __name__ == "__main__":
    unittest.main()
