"""Calls written as the interface asks, and answers cut call by call."""

from kindplans.texts import answers

PRINT, FACTS, ACTS, TASK = [1], [2], [3], [4]
NOTHING = [[0], [0], [0], [0, 0, 0]]
WHOLE_HOUSE = [PRINT, FACTS, ACTS, TASK]

# Three kinds with things; facts with none, one and two places; acts likewise.
TRAVEL = """\
kind place
kind who
thing home place
thing ann who
thing shop place
fact rain
fact at who place
fact shut place
act wait 7
takes rain
act go 12 x who y place
needs at x home
bars shut y
bars rain
brings at x y
takes at x home
now at ann home
now rain
want at ann shop
"""


def as_bytes(text):
    if isinstance(text, str):
        return list(text.encode("latin-1"))
    return list(text)


def read(text):
    row = as_bytes(text)
    return [0, len(row)] + row


def joined(calls):
    return [number for call in calls for number in call]


def cut(answered):
    """One list a call, by the counts that stand before each answer."""
    found = []
    place = 0
    while place < len(answered):
        end = place + 1 + answered[place]
        found.append(answered[place + 1:end])
        place = end
    if place != len(answered):
        raise AssertionError("the last answer is shorter than its count")
    return found


def ask(*calls):
    found = cut(answers(joined(calls)))
    if len(found) != len(calls):
        raise AssertionError(f"{len(calls)} calls, {len(found)} answers")
    return found


def read_answer(text):
    return ask(read(text))[0]


def printed(text):
    """What print answers behind a read that must go well, as a text."""
    first, second = ask(read(text), PRINT)
    if first[0] != 0:
        raise AssertionError(f"refused: {first}")
    if second[0] != len(second) - 1:
        raise AssertionError("print tells another count than its bytes have")
    return bytes(second[1:]).decode("ascii")


def lines(*rows):
    return "".join(row + "\n" for row in rows)
