"""The calls on one house, written one behind another in a list of whole numbers."""

from kindplans.house import (
    House, act_answer, acts_answer, after_answer, fact_answer, facts_answer, plan_answer, print_answer, read_answer,
    task_answer,
)

READ = 0
PRINT = 1
FACTS = 2
ACTS = 3
TASK = 4
ACT = 5
PLAN = 6
FACT = 7
AFTER = 8


class UnknownCall(ValueError):
    pass


def answers(calls):
    house = House()
    answered = []
    place = 0
    while place < len(calls):
        call = calls[place]
        start = place + 1
        end = start
        if call == ACT or call == FACT:
            end = start + 1
        elif call == READ or call == AFTER:
            start = start + 1
            end = start + calls[place + 1]
        numbers = answer(house, call, calls[start:end])
        answered.append(len(numbers))
        answered.extend(numbers)
        place = end
    return answered


# What is handed over is a row: that of read or after, the one number of act or fact, else nothing.
def answer(house, call, handed):
    if call == READ:
        return read_answer(house, handed)
    if call == PRINT:
        return print_answer(house)
    if call == FACTS:
        return facts_answer(house)
    if call == ACTS:
        return acts_answer(house)
    if call == TASK:
        return task_answer(house)
    if call == ACT:
        return act_answer(house, handed[0])
    if call == PLAN:
        return plan_answer(house)
    if call == FACT:
        return fact_answer(house, handed[0])
    if call == AFTER:
        return after_answer(house, handed)
    # How long an unknown call is can't be told, so nothing behind it could be read.
    raise UnknownCall("no such call")
