"""The house: the text that is there now, what comes of it, and what each call answers."""

from kindplans.faults import NO_FAULT, lowest_fault
from kindplans.form import one_form
from kindplans.rows import all_acts, all_facts, fact_set
from kindplans.told import Text, tell
from kindplans.words import cut_lines, cut_words, has_wrong_signs

MOST_FACTS = 8
MOST_ACTS = 12


class House:
    def __init__(self):
        self.text = Text()
        self.facts = []
        self.acts = []


# The new text is built beside the old one, so that a refusal leaves the house as it was.
def read_answer(house, row):
    text = Text()
    lines = cut_lines(row)
    for number, line in enumerate(lines, start=1):
        fault = take_line(text, line)
        if fault != NO_FAULT:
            return [-1, number, fault]
    facts = all_facts(text)
    acts = all_acts(text)
    fault = whole_fault(facts, acts)
    if fault != NO_FAULT:
        return [-1, len(lines) + 1, fault]
    house.text = text
    house.facts = facts
    house.acts = acts
    return [0, len(facts), len(acts)]


def take_line(text, line):
    if has_wrong_signs(line):
        return 1
    words = cut_words(line)
    if len(words) == 0:
        return NO_FAULT
    fault = lowest_fault(text, words)
    if fault == NO_FAULT:
        tell(text, words)
    return fault


def whole_fault(facts, acts):
    if len(facts) == 0 or len(facts) > MOST_FACTS:
        return 9
    if len(acts) > MOST_ACTS:
        return 10
    return NO_FAULT


def print_answer(house):
    row = one_form(house.text)
    return [len(row)] + row


def facts_answer(house):
    return cases_answer(house.facts)


def acts_answer(house):
    return cases_answer(house.acts)


def cases_answer(cases):
    numbers = [len(cases)]
    for number, things in cases:
        numbers.append(number)
        numbers.append(len(things))
        numbers.extend(things)
    return numbers


def task_answer(house):
    now = fact_set(house.text, house.facts, house.text.now)
    want = fact_set(house.text, house.facts, house.text.want)
    return [len(house.facts), now, want]
