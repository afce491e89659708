"""The calls on one house, written one behind another in a list of whole numbers."""

from kindplans.house import House, acts_answer, facts_answer, print_answer, read_answer, task_answer

READ = 0
PRINT = 1
FACTS = 2
ACTS = 3
TASK = 4


class UnknownCall(ValueError):
    pass


def answers(calls):
    house = House()
    answered = []
    place = 0
    while place < len(calls):
        call = calls[place]
        row = []
        place = place + 1
        if call == READ:
            end = place + 1 + calls[place]
            row = calls[place + 1:end]
            place = end
        numbers = answer(house, call, row)
        answered.append(len(numbers))
        answered.extend(numbers)
    return answered


def answer(house, call, row):
    if call == READ:
        return read_answer(house, row)
    if call == PRINT:
        return print_answer(house)
    if call == FACTS:
        return facts_answer(house)
    if call == ACTS:
        return acts_answer(house)
    if call == TASK:
        return task_answer(house)
    # How long an unknown call is can't be told, so nothing behind it could be read.
    raise UnknownCall("no such call")
