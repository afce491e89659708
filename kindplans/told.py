"""What a text tells: its kinds, things, facts and acts, what is so at first, what is wanted.

All is kept by name and in the order told; a number is a place in such a list.
A claim is a fact's name and then the names of its arguments, in one tuple.
"""

OF_AN_ACT = ("needs", "bars", "brings", "takes")


class Act:
    def __init__(self, name, cost, places, kinds):
        self.name = name
        self.cost = cost
        self.places = places
        self.kinds = kinds
        self.claims = {"needs": [], "bars": [], "brings": [], "takes": []}


class Text:
    def __init__(self):
        self.kinds = []
        self.things = []
        self.thing_kinds = []
        self.facts = []
        self.fact_kinds = []
        self.acts = []
        self.now = []
        self.want = []


# The words must be those of a line without a fault.
def tell(text, words):
    sort = words[0]
    if sort == "kind":
        text.kinds.append(words[1])
    elif sort == "thing":
        text.things.append(words[1])
        text.thing_kinds.append(words[2])
    elif sort == "fact":
        text.facts.append(words[1])
        text.fact_kinds.append(words[2:])
    elif sort == "act":
        text.acts.append(Act(words[1], int(words[2]), words[3::2], words[4::2]))
    else:
        claims_of(text, sort).append(tuple(words[1:]))


# Before the first act there is none to have claims: an empty list stands in.
def claims_of(text, sort):
    if sort == "now":
        return text.now
    if sort == "want":
        return text.want
    if len(text.acts) == 0:
        return []
    return text.acts[-1].claims[sort]


def last_places(text):
    if len(text.acts) == 0:
        return []
    return text.acts[-1].places
