"""Acts with things in their places: what each needs, bars, brings and takes, and what is so behind it."""

from kindplans.rows import fact_set, thing_names
from kindplans.told import OF_AN_ACT


class Deed:
    def __init__(self, words, cost, sets):
        self.words = words
        self.cost = cost
        self.needs = sets["needs"]
        self.bars = sets["bars"]
        self.brings = sets["brings"]
        self.takes = sets["takes"]


def all_deeds(text, facts, acts):
    return [deed_of(text, facts, case) for case in acts]


def deed_of(text, facts, case):
    act = text.acts[case[0]]
    names = thing_names(text, case[1])
    thing_in = dict(zip(act.places, names))
    sets = {}
    for sort in OF_AN_ACT:
        claims = [filled(claim, thing_in) for claim in act.claims[sort]]
        sets[sort] = fact_set(text, facts, claims)
    return Deed([act.name] + names, act.cost, sets)


# The fact stays as it is: it may be called like a place. A thing never is.
def filled(claim, thing_in):
    return claim[:1] + tuple([thing_in.get(name, name) for name in claim[1:]])


def may_be_done(deed, so):
    return has_all(so, deed.needs) and (so & deed.bars) == 0


def has_all(so, facts):
    return (so & facts) == facts


# What is brought comes last: a fact that is both brought and taken is so.
def so_behind(deed, so):
    left = so - (so & deed.takes)
    return left | deed.brings


# None if one of the acts can't be done when it comes, or there is none such.
def so_behind_all(deeds, so, numbers):
    for number in numbers:
        if number >= len(deeds) or not may_be_done(deeds[number], so):
            return None
        so = so_behind(deeds[number], so)
    return so
