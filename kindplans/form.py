"""The one form of a text."""

from kindplans.told import OF_AN_ACT
from kindplans.words import line_bytes


def one_form(text):
    row = []
    for words in form_lines(text):
        row.extend(line_bytes(words))
    return row


def form_lines(text):
    lines = [["kind", name] for name in text.kinds]
    for name, kind in zip(text.things, text.thing_kinds):
        lines.append(["thing", name, kind])
    for name, kinds in zip(text.facts, text.fact_kinds):
        lines.append(["fact", name] + kinds)
    for act in text.acts:
        lines.extend(act_lines(act))
    lines.extend(claim_lines("now", text.now))
    lines.extend(claim_lines("want", text.want))
    return lines


def act_lines(act):
    first = ["act", act.name, str(act.cost)]
    for place, kind in zip(act.places, act.kinds):
        first.extend([place, kind])
    lines = [first]
    for sort in OF_AN_ACT:
        lines.extend(claim_lines(sort, act.claims[sort]))
    return lines


def claim_lines(sort, claims):
    return [[sort] + list(claim) for claim in claims]
