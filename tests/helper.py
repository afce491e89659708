"""Calls written as the interface asks, answers cut call by call, and a second way to all that comes of a text."""

import heapq
import itertools

from kindplans.texts import answers

PRINT, FACTS, ACTS, TASK, PLAN = [1], [2], [3], [4], [6]
ENORMOUS = 4294967295


def act(which):
    return [5, which]


def fact(which):
    return [7, which]


def after(*acts):
    return [8, len(acts), *acts]


WHOLE_HOUSE = [PRINT, FACTS, ACTS, TASK, act(0), PLAN, fact(0), after()]
NOTHING = [[0], [0], [0], [0, 0, 0], [-2], [0], [-2], [1, 0]]

# Three kinds with things; facts with none, one and two places; acts likewise.
TRAVEL = """\
kind place
kind who
thing home place
thing ann who
thing shop place
fact rain
fact at who place
fact shut place
act wait 7
takes rain
act go 12 x who y place
needs at x home
bars shut y
bars rain
brings at x y
takes at x home
now at ann home
now rain
want at ann shop
"""


def as_bytes(text):
    if isinstance(text, str):
        return list(text.encode("latin-1"))
    return list(text)


def read(text):
    row = as_bytes(text)
    return [0, len(row)] + row


def joined(calls):
    return [number for call in calls for number in call]


def cut(answered):
    """One list a call, by the counts that stand before each answer."""
    found = []
    place = 0
    while place < len(answered):
        end = place + 1 + answered[place]
        found.append(answered[place + 1:end])
        place = end
    if place != len(answered):
        raise AssertionError("the last answer is shorter than its count")
    return found


def ask(*calls):
    found = cut(answers(joined(calls)))
    if len(found) != len(calls):
        raise AssertionError(f"{len(calls)} calls, {len(found)} answers")
    return found


def read_answer(text):
    return ask(read(text))[0]


def printed(text):
    """What print answers behind a read that must go well, as a text."""
    first, second = ask(read(text), PRINT)
    if first[0] != 0:
        raise AssertionError(f"refused: {first}")
    if second[0] != len(second) - 1:
        raise AssertionError("print tells another count than its bytes have")
    return bytes(second[1:]).decode("ascii")


def good_answers(text, *calls):
    """What is answered behind a read that must go well."""
    found = ask(read(text), *calls)
    if found[0][0] != 0:
        raise AssertionError(f"refused: {found[0]}")
    return found[1:]


def lines(*rows):
    return "".join(row + "\n" for row in rows)


class Reference:
    """What a good text stands for, worked out by names alone: facts are tuples of words, sets of facts are sets."""

    def __init__(self, text):
        rows = [row.split() for row in text.split("\n") if row.split()]
        self.things = [(row[1], row[2]) for row in rows if row[0] == "thing"]
        self.facts = [(row[1], *things) for row in rows if row[0] == "fact" for things in self.rows_of(row[2:])]
        self.now = {tuple(row[1:]) for row in rows if row[0] == "now"}
        self.want = {tuple(row[1:]) for row in rows if row[0] == "want"}
        self.acts = []
        starts = [number for number, row in enumerate(rows) if row[0] == "act"]
        for start, end in zip(starts, starts[1:] + [len(rows)]):
            self.tell_act(rows[start], rows[start + 1:end])

    def rows_of(self, kinds):
        return itertools.product(*[[name for name, own in self.things if own == kind] for kind in kinds])

    def tell_act(self, row, behind):
        for things in self.rows_of(row[4::2]):
            told = {"name": (row[1], *things), "cost": int(row[2])}
            there = dict(zip(row[3::2], things))
            for sort in ("needs", "bars", "brings", "takes"):
                claims = [other[1:] for other in behind if other[0] == sort]
                told[sort] = {(claim[0], *[there.get(word, word) for word in claim[1:]]) for claim in claims}
            self.acts.append(told)

    def number(self, facts):
        return sum(1 << number for number, own in enumerate(self.facts) if own in facts)

    def step(self, so, told):
        if not told["needs"] <= so or told["bars"] & so:
            return None
        return (so - told["takes"]) | told["brings"]

    def act_answer(self, which):
        if which >= len(self.acts):
            return [-2]
        told = self.acts[which]
        sets = [self.number(told[sort]) for sort in ("needs", "bars", "brings", "takes")]
        return [told["cost"], *sets, *as_bytes(" ".join(told["name"]) + "\n")]

    def fact_answer(self, which):
        if which >= len(self.facts):
            return [-2]
        return [len(self.facts[which]) - 1, *as_bytes(" ".join(self.facts[which]) + "\n")]

    def after_answer(self, acts):
        so = self.now
        for which in acts:
            so = self.step(so, self.acts[which]) if which < len(self.acts) else None
            if so is None:
                return [-5]
        return [int(self.want <= so), self.number(so)]

    def plan(self):
        """The numbers of the plan's acts, or None: ways are tried by what they cost and then by their acts."""
        heap = [(0, (), self.number(self.now))]
        sets = {self.number(self.now): frozenset(self.now)}
        done = set()
        while heap:
            cost, acts, number = heapq.heappop(heap)
            if self.want <= sets[number]:
                return acts
            if number not in done:
                done.add(number)
                for which, told in enumerate(self.acts):
                    behind = self.step(sets[number], told)
                    if behind is not None:
                        sets[self.number(behind)] = behind
                        heapq.heappush(heap, (cost + told["cost"], acts + (which,), self.number(behind)))
        return None

    def plan_answer(self):
        acts = self.plan()
        if acts is None:
            return [-6]
        rows = [" ".join(self.acts[which]["name"]) for which in acts]
        return [sum(self.acts[which]["cost"] for which in acts), *as_bytes(lines(*rows))]


def text_of_chance(chance, dearest):
    """A text without a fault, with at most 8 facts and 12 acts; often with a plan of several acts."""
    while True:
        rows = rows_of_chance(chance, dearest)
        if chance.random() < 0.7:
            rows += ["want " + " ".join(claim) for claim in sorted(reached_by_chance(chance, Reference(lines(*rows))))]
        else:
            rows += ["want " + " ".join(chance.choice([("f",), ("f", "s"), ("g", "s"), ("h", "t")]))]
        text = lines(*rows)
        if len(text) <= 1500 and read_answer(text)[0] == 0:
            return text


def reached_by_chance(chance, reference):
    so = reference.now
    for turn in range(20):
        told = chance.choice(reference.acts) if reference.acts else None
        behind = reference.step(so, told) if told else None
        so = so if behind is None else behind
    return so


def rows_of_chance(chance, dearest):
    kinds = ["k", "l"][:chance.randint(1, 2)]
    things = [(name, chance.choice(kinds)) for name in "stu"[:chance.choice((0, 2, 2, 3))]]
    facts = [(name, *chance.choices(kinds, k=chance.choice((0, 1, 1, 2)))) for name in "fgxh"[:chance.randint(1, 4)]]
    rows = [f"kind {kind}" for kind in kinds] + [f"thing {name} {kind}" for name, kind in things]
    rows += ["fact " + " ".join(words) for words in facts]
    for name in "abcd"[:chance.choice((0, 2, 3, 4, 4))]:
        places = [(place, chance.choice(kinds)) for place in "xy"[:chance.randint(0, 2)]]
        rows.append(" ".join(["act", name, str(chance.randint(1, dearest)), *itertools.chain(*places)]))
        for sort, counts in (("needs", (0, 1, 1)), ("bars", (0, 0, 1)), ("brings", (1, 1, 2)), ("takes", (0, 1, 2))):
            rows += claims_of_chance(chance, sort, chance.choice(counts), facts, places * 3 + things)
    return rows + claims_of_chance(chance, "now", chance.randint(0, 2), facts, things)


def claims_of_chance(chance, sort, count, facts, arguments):
    rows = []
    for turn in range(count):
        name, *kinds = chance.choice(facts)
        pools = [[word for word, own in arguments if own == kind] for kind in kinds]
        if all(pools):
            rows.append(" ".join([sort, name, *[chance.choice(pool) for pool in pools]]))
    return rows
