"""What comes of a text: each fact and each act with each row of things, and sets of facts.

A case is a number of a fact (or act) in the text and a tuple of its things' numbers.
"""


def all_facts(text):
    return all_cases(text, text.fact_kinds)


def all_acts(text):
    return all_cases(text, [act.kinds for act in text.acts])


def all_cases(text, kinds_of_each):
    cases = []
    for number, kinds in enumerate(kinds_of_each):
        for row in rows_of(text, kinds):
            cases.append((number, row))
    return cases


# Without kinds there is one row, the empty one; a kind without things leaves none.
def rows_of(text, kinds):
    rows = [()]
    for kind in kinds:
        rows = longer_rows(rows, things_of(text, kind))
    return rows


def longer_rows(rows, things):
    longer = []
    for row in rows:
        for thing in things:
            longer.append(row + (thing,))
    return longer


def things_of(text, kind):
    return [number for number, own in enumerate(text.thing_kinds) if own == kind]


def thing_names(text, things):
    return [text.things[number] for number in things]


def fact_set(text, facts, claims):
    bits = 0
    for claim in claims:
        bits = bits | (1 << facts.index(case_of(text, claim)))
    return bits


def case_of(text, claim):
    things = [text.things.index(name) for name in claim[1:]]
    return (text.facts.index(claim[0]), tuple(things))
