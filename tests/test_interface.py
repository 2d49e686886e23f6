"""The names of the interface stand where the document lists them, with the parameters that it gives them."""

import importlib
import inspect
import unittest

FUNCTIONS = {
    "names": ["is_name(value)", "is_number(value, least, most)"],
    "lots": ["is_lot(value)", "is_lot_of(finds, value)", "lot_of(names)", "are_apart(one, other)",
             "overlap(one, other)", "is_within(one, other)", "joined(one, other)", "common(one, other)",
             "rest(one, other)"],
    "orders": ["is_order(finds, value)", "place_in(order, name)", "keeps(order, lot)", "gaps_of(order, lot)",
               "turned(order)", "cut_order(order, lot)"],
    "facts": ["is_fact(value)", "is_marked_fact(value)", "names_in(fact)", "fits_fact(order, fact)",
              "turned_fact(fact)", "fact_text(fact)", "check_facts(finds, facts)", "write_facts(facts)",
              "read_facts(text)"],
    "books": ["book_of(table)"],
    "derivations": ["is_statement(value)", "first_fault(book, facts, entries)",
                    "shows(book, facts, entries, statement)", "shortened(entries)", "write_entries(entries)",
                    "read_entries(text)"],
    "blocks": ["blocks_of(book)"],
    "bars": ["is_standing(book)", "bar_of(book)", "bar_entries(book)", "least_part(book)", "kept_words(book)",
             "needless(book)", "core(book)"],
    "trees": ["tree_of(book)"],
    "three": ["three_orders(tree)", "follows(tree, lot)", "refuted(tree, lot)"],
    "alike": ["alike(one, other)", "differing(one, other)", "parted_by(one, other)"],
    "shared": ["shares(orders, lot)", "shared_tree(orders)", "fewest_orders(orders)"],
    "rings": ["is_ring_order(finds, value)", "is_arc(order, lot)", "opened(order, name)"],
    "webs": ["web_of(book, facts=())"],
    "counting": ["count_orders(web)", "order_at(web, rank)", "rank_of(web, order)", "all_orders(web)"],
    "chains": ["derived(book, facts, statement)"],
    "surely": ["surely_before(web, x, y)", "may_before(web, x, y)", "surely_between(web, x, z, y)",
               "may_between(web, x, z, y)", "surely_together(web, lot)", "may_together(web, lot)", "reasons(web, lot)"],
    "outlooks": ["is_question(finds, value)", "holds(order, question)", "outlook(web, question)",
                 "witness(web, question)"],
    "places": ["places(web, name)", "distances(web, x, y)", "order_with_place(web, name, place)",
               "order_with_distance(web, x, y, distance)"],
    "prices": ["cost(order, *, times, weights)", "cheapest(web, *, times, weights)",
               "cheapest_at(web, name, place, *, times, weights)", "lump(lot, *, times, weights)"],
    "spans": ["span_in(order, lot)", "spans_of(table, order)", "relation_in(order, one, other)",
              "relations(web, one, other)", "kinds_at(web, table, place)"],
    "meetings": ["meetings_of(table)"],
    "tabled": ["is_ring_without_chords(meetings, value)", "ring_without_chords(meetings)",
               "way_past(meetings, one, other, past)", "three_apart(meetings)", "table_of(meetings)"],
    "glue": ["groups(names, pairs)", "table_by(table, pairs)", "book_by(book, pairs)", "facts_by(finds, facts, pairs)"],
    "sayings": ["is_claim(value)", "claim_names(claim)", "claim_text(claim)", "read_claim(text)"],
    "officetexts": ["write_office(office)", "read_office(text)", "write_journal(journal)", "read_journal(text)",
                    "played(journal)"],
}
CLASSES = {
    ("tables", "Table"): ["__init__(self, holdings)", "finds(self)", "kinds(self)", "kinds_of(self, name)",
                          "lot_of_kind(self, kind)", "holds(self, name, kind)", "text(self)", "__str__(self)",
                          "__contains__(self, name)", "__eq__(self, other)", "__len__(self)", "__repr__(self)"],
    ("books", "Book"): ["__init__(self, finds, words=())", "finds(self)", "words(self)", "lots(self)",
                        "word(self, mark)", "with_word(self, mark, lot)", "__add__(self, word)",
                        "without(self, mark)", "fits(self, value)", "text(self)", "__str__(self)", "__iter__(self)",
                        "__contains__(self, mark)", "__eq__(self, other)", "__len__(self)", "__bool__(self)",
                        "__repr__(self)"],
    ("blocks", "Blocks"): ["__init__(self, finds)", "put(self, mark, lot)", "finds(self)", "blocks(self)",
                           "words(self)", "derivation(self, lot)", "entries(self)", "twin(self)",
                           "__contains__(self, lot)", "__len__(self)", "__repr__(self)"],
    ("trees", "Tree"): ["__init__(self, finds, lots=())", "finds(self)", "blocks(self)", "nodes(self)",
                        "shape(self, lot)", "children(self, lot)", "depth(self, lot)", "least_block(self, lot)",
                        "parting(self, x, y)", "walk(self)", "fits(self, value)", "with_lot(self, lot)",
                        "__add__(self, lot)", "__or__(self, other)", "__and__(self, other)", "within(self, other)",
                        "cut_to(self, lot)", "__contains__(self, lot)", "text(self)", "__str__(self)",
                        "__eq__(self, other)", "__len__(self)", "__repr__(self)"],
    ("rings", "Ring"): ["__init__(self, finds, lots=())", "finds(self)", "lots(self)", "tree_past(self, name)",
                        "arcs(self)", "many(self)", "order_at(self, rank)", "three_rings(self)", "fits(self, value)",
                        "__contains__(self, lot)", "__eq__(self, other)", "__len__(self)", "__repr__(self)"],
    ("webs", "Web"): ["__init__(self, tree, facts=())", "facts(self)", "links(self, lot)", "direction(self, lot)",
                      "ways(self, lot)", "fits(self, value)", "with_fact(self, mark, fact)", "__add__(self, marked)",
                      "without(self, mark)", "can_take(self, *facts)", "__eq__(self, other)", "__len__(self)",
                      "__bool__(self)", "__repr__(self)"],
    ("meetings", "Meetings"): ["__init__(self, kinds, pairs=())", "kinds(self)", "pairs(self)",
                               "meet(self, one, other)", "beside(self, kind)", "greatest_lots(self)",
                               "__eq__(self, other)", "__len__(self)", "__repr__(self)"],
    ("sayings", "Saying"): ["__init__(self, digger, mark, claim)", "text(self)", "__eq__(self, other)",
                            "__repr__(self)"],
    ("office", "Office"): ["__init__(self)", "do(self, *deeds)", "undo(self)", "redo(self)", "history(self)",
                           "journal(self)", "finds(self)", "kinds_of(self, name)", "sayings(self)", "heads(self)",
                           "table(self)", "book(self)", "facts(self)", "web(self)", "tried(self, *deeds)",
                           "keep(self, statement)", "kept(self, number)", "is_good(self, number)",
                           "kept_statements(self)", "say(self, line)", "__call__(self, line)", "log(self)",
                           "text(self)", "twin(self)", "__eq__(self, other)", "__len__(self)", "__bool__(self)",
                           "__repr__(self)"],
}


def told(name, function):
    return name + str(inspect.signature(function))


class InterfaceTest(unittest.TestCase):
    def test_functions(self):
        for file, lines in FUNCTIONS.items():
            module = importlib.import_module("threeorders." + file)
            for line in lines:
                function = getattr(module, line.partition("(")[0])
                self.assertEqual(told(line.partition("(")[0], function), line)
                self.assertEqual(function.__module__, module.__name__)

    def test_classes(self):
        for (file, name), lines in CLASSES.items():
            module = importlib.import_module("threeorders." + file)
            self.assertEqual(getattr(module, name).__module__, module.__name__)
            for line in lines:
                method = vars(getattr(module, name))[line.partition("(")[0]]
                self.assertEqual(told(line.partition("(")[0], method), line)

    def test_static_methods(self):
        for file, name in (("tables", "Table"), ("books", "Book"), ("trees", "Tree")):
            method = vars(getattr(importlib.import_module("threeorders." + file), name))["read"]
            self.assertIsInstance(method, staticmethod)
            self.assertEqual(told("read", method.__func__), "read(text)")

    def test_properties(self):
        office = importlib.import_module("threeorders.office")
        for name in ("stands", "busy"):
            self.assertIsInstance(vars(office.Office)[name], property)

    def test_generators(self):
        blocks = importlib.import_module("threeorders.blocks")
        trees = importlib.import_module("threeorders.trees")
        counting = importlib.import_module("threeorders.counting")
        for function in (blocks.Blocks.entries, trees.Tree.walk, counting.all_orders):
            self.assertTrue(inspect.isgeneratorfunction(function))
