"""The house: the text that is there now, what comes of it, and what each call answers."""

from kindplans.deeds import all_deeds, has_all, so_behind_all
from kindplans.faults import NO_FAULT, lowest_fault
from kindplans.form import one_form
from kindplans.plans import cheapest_plan
from kindplans.rows import all_acts, all_facts, fact_set, thing_names
from kindplans.told import Text, tell
from kindplans.words import cut_lines, cut_words, has_wrong_signs, line_bytes

MOST_FACTS = 8
MOST_ACTS = 12
WRONG_TEXT = -1
NONE_SUCH = -2
NOT_TO_BE_DONE = -5
NO_PLAN = -6


class House:
    def __init__(self):
        self.text = Text()
        self.facts = []
        self.acts = []
        self.deeds = []
        self.first = 0
        self.wanted = 0


# The new text is built beside the old one, so that a refusal leaves the house as it was.
def read_answer(house, row):
    text = Text()
    lines = cut_lines(row)
    for number, line in enumerate(lines, start=1):
        fault = take_line(text, line)
        if fault != NO_FAULT:
            return [WRONG_TEXT, number, fault]
    facts = all_facts(text)
    acts = all_acts(text)
    fault = whole_fault(facts, acts)
    if fault != NO_FAULT:
        return [WRONG_TEXT, len(lines) + 1, fault]
    move_in(house, text, facts, acts)
    return [0, len(facts), len(acts)]


def move_in(house, text, facts, acts):
    house.text = text
    house.facts = facts
    house.acts = acts
    house.deeds = all_deeds(text, facts, acts)
    house.first = fact_set(text, facts, text.now)
    house.wanted = fact_set(text, facts, text.want)


def take_line(text, line):
    if has_wrong_signs(line):
        return 1
    words = cut_words(line)
    if len(words) == 0:
        return NO_FAULT
    fault = lowest_fault(text, words)
    if fault == NO_FAULT:
        tell(text, words)
    return fault


def whole_fault(facts, acts):
    if len(facts) == 0 or len(facts) > MOST_FACTS:
        return 9
    if len(acts) > MOST_ACTS:
        return 10
    return NO_FAULT


def print_answer(house):
    row = one_form(house.text)
    return [len(row)] + row


def facts_answer(house):
    return cases_answer(house.facts)


def acts_answer(house):
    return cases_answer(house.acts)


def cases_answer(cases):
    numbers = [len(cases)]
    for number, things in cases:
        numbers.append(number)
        numbers.append(len(things))
        numbers.extend(things)
    return numbers


def task_answer(house):
    return [len(house.facts), house.first, house.wanted]


def act_answer(house, which):
    if which >= len(house.deeds):
        return [NONE_SUCH]
    deed = house.deeds[which]
    return [deed.cost, deed.needs, deed.bars, deed.brings, deed.takes] + line_bytes(deed.words)


def plan_answer(house):
    plan = cheapest_plan(house.deeds, len(house.facts), house.first, house.wanted)
    if plan is None:
        return [NO_PLAN]
    numbers = [sum([house.deeds[number].cost for number in plan])]
    for number in plan:
        numbers.extend(line_bytes(house.deeds[number].words))
    return numbers


def fact_answer(house, which):
    if which >= len(house.facts):
        return [NONE_SUCH]
    case = house.facts[which]
    words = [house.text.facts[case[0]]] + thing_names(house.text, case[1])
    return [len(case[1])] + line_bytes(words)


def after_answer(house, acts):
    so = so_behind_all(house.deeds, house.first, acts)
    if so is None:
        return [NOT_TO_BE_DONE]
    return [1 if has_all(so, house.wanted) else 0, so]
