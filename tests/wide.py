"""Webs of many finds, and a plain way through their orders: by the sets of finds that can stand ahead."""

import functools

from plain import MARKS, TWELVE, finds_in, grown_lots, grown_order, numbered
from threeorders.trees import Tree
from threeorders.webs import Web


def drawn_web(draws, most_facts=6, finds=TWELVE):
    """The web of a grown tree with facts that some order fits."""
    growth = numbered(draws.growth(finds))
    order = grown_order(growth, draws)
    facts = []
    for mark in MARKS[:draws.below(most_facts + 1)]:
        x, y = sorted([draws.below(len(order)), draws.below(len(order))])
        if x < y:
            facts.append((mark, ("before", order[x], order[y])))
    if draws.below(4) == 0:
        facts.append(("zz", ("first", order[0])) if draws.below(2) else ("zz", ("last", order[-1])))
    return Web(Tree(finds_in(growth), grown_lots(growth)), facts)


class Ahead:
    """The sets of finds that can stand ahead of all others in the orders that fit a web, and the finds behind them."""

    def __init__(self, web):
        self.finds = web.tree.finds()
        self.blocks = [frozenset(block) for block in web.tree.blocks()]
        self.facts = [fact for _, fact in web.facts()]
        self.ends = functools.lru_cache(maxsize=None)(self.find_ends)

    def may_follow(self, ahead, name):
        """Whether a find may stand behind a set as far as the set and what is begun in it tell."""
        for block in self.blocks:
            if block & ahead and block - ahead and name not in block:
                return False
        for fact in self.facts:
            if fact[0] == "before" and fact[2] == name and fact[1] not in ahead:
                return False
            if fact[0] == "first" and not ahead and fact[1] != name:
                return False
            if fact[0] == "last" and fact[1] == name and len(ahead) < len(self.finds) - 1:
                return False
        return True

    def find_ends(self, ahead):
        """Whether an order that fits begins with a set."""
        if len(ahead) == len(self.finds):
            return True
        return any(self.may_follow(ahead, name) and self.ends(ahead | {name}) for name in self.finds if name not in ahead)

    def nexts(self, ahead):
        """The finds that stand right behind a set in some order that fits."""
        return [
            name for name in self.finds
            if name not in ahead and self.may_follow(ahead, name) and self.ends(ahead | {name})
        ]

    def levels(self, start, step):
        """What a step makes of what was told at the sets ahead, set by set; the told sets at the set of all finds."""
        told = {frozenset(): {start}}
        for _ in self.finds:
            more = {}
            for ahead, items in told.items():
                for name in self.nexts(ahead):
                    found = more.setdefault(ahead | {name}, set())
                    found |= {made for item in items for made in step(ahead, name, item)}
            told = more
        return told[frozenset(self.finds)]

    def places(self, name):
        """The places of a find."""
        return sorted(self.levels(None, lambda ahead, each, item: [len(ahead) if each == name else item]))

    def distances(self, x, y):
        """The distances of two finds."""
        def step(ahead, name, item):
            if name not in (x, y):
                return [item]
            return [len(ahead) if item is None else len(ahead) - item - 1]
        return sorted(self.levels(None, step))

    def spans(self, one, other):
        """The quadruples of the first and last places of two lots."""
        def step(ahead, name, item):
            made = list(item)
            for at, lot in ((0, one), (2, other)):
                if name in lot:
                    made[at:at + 2] = [len(ahead) if item[at] is None else item[at], len(ahead)]
            return [tuple(made)]
        return self.levels((None, None, None, None), step)

    def least_cost(self, times, weights, name=None, place=None):
        """The lowest cost, or the lowest one where a find has a place; None if it never has it."""
        told = {frozenset(): 0}
        for at in range(len(self.finds)):
            more = {}
            for ahead, worth in told.items():
                end = sum(times[each] for each in ahead)
                for each in self.nexts(ahead):
                    if (each == name) == (at == place) or name is None:
                        made = worth + weights[each] * (end + times[each])
                        key = ahead | {each}
                        more[key] = min(made, more.get(key, made))
            told = more
        return told.get(frozenset(self.finds))
