"""The faults 2 to 8 of a line's words, each looked for only where no lower one holds."""

from kindplans.told import OF_AN_ACT, claims_of, last_places
from kindplans.words import is_cost, is_name

ROLES = {
    "kind": ("name",),
    "thing": ("name", "kind"),
    "fact": ("name", "kind", "kind"),
    "act": ("name", "cost", "place", "kind", "place", "kind"),
    "needs": ("fact", "argument", "argument"),
    "bars": ("fact", "argument", "argument"),
    "brings": ("fact", "argument", "argument"),
    "takes": ("fact", "argument", "argument"),
    "now": ("fact", "thing", "thing"),
    "want": ("fact", "thing", "thing"),
}
WORD_COUNTS = {
    "kind": (2,),
    "thing": (3,),
    "fact": (2, 3, 4),
    "act": (3, 5, 7),
    "needs": (2, 3, 4),
    "bars": (2, 3, 4),
    "brings": (2, 3, 4),
    "takes": (2, 3, 4),
    "now": (2, 3, 4),
    "want": (2, 3, 4),
}
MOST = {
    "kind": 3,
    "thing": 6,
    "fact": 4,
    "act": 4,
    "needs": 6,
    "bars": 6,
    "brings": 6,
    "takes": 6,
    "now": 12,
    "want": 12,
}
NO_FAULT = 0


def lowest_fault(text, words):
    if is_no_line(words):
        return 2
    if has_wrong_word(words):
        return 3
    if takes_a_name_again(text, words):
        return 4
    if names_what_is_not_there(text, words):
        return 5
    if has_other_kinds(text, words):
        return 6
    if count_told(text, words[0]) >= MOST[words[0]]:
        return 7
    if words[0] in OF_AN_ACT and len(text.acts) == 0:
        return 8
    return NO_FAULT


def is_no_line(words):
    return words[0] not in WORD_COUNTS or len(words) not in WORD_COUNTS[words[0]]


def has_wrong_word(words):
    for role, word in zip(ROLES[words[0]], words[1:]):
        if role == "cost":
            if not is_cost(word):
                return True
        elif not is_name(word):
            return True
    return False


def takes_a_name_again(text, words):
    name = words[1]
    if words[0] == "kind":
        return name in text.kinds
    if words[0] == "thing":
        return name in text.things or is_place_of_an_act(text, name)
    if words[0] == "fact":
        return name in text.facts
    if words[0] == "act":
        return name in [act.name for act in text.acts] or has_wrong_places(text, words[3::2])
    return False


def is_place_of_an_act(text, name):
    return any([name in act.places for act in text.acts])


def has_wrong_places(text, places):
    if len(places) == 2 and places[0] == places[1]:
        return True
    return any([place in text.things for place in places])


def names_what_is_not_there(text, words):
    for role, word in zip(ROLES[words[0]], words[1:]):
        if not is_there(text, role, word):
            return True
    return False


def is_there(text, role, word):
    if role == "kind":
        return word in text.kinds
    if role == "fact":
        return word in text.facts
    if role == "thing":
        return word in text.things
    if role == "argument":
        return word in text.things or word in last_places(text)
    return True


def has_other_kinds(text, words):
    if ROLES[words[0]][0] != "fact":
        return False
    kinds = [kind_of(text, word) for word in words[2:]]
    return kinds != text.fact_kinds[text.facts.index(words[1])]


# No place of an act is called like a thing, so a thing's name is never a place's.
def kind_of(text, argument):
    if argument in text.things:
        return text.thing_kinds[text.things.index(argument)]
    act = text.acts[-1]
    return act.kinds[act.places.index(argument)]


def count_told(text, sort):
    if sort == "kind":
        return len(text.kinds)
    if sort == "thing":
        return len(text.things)
    if sort == "fact":
        return len(text.facts)
    if sort == "act":
        return len(text.acts)
    return len(claims_of(text, sort))
