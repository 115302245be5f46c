"""The calls on one object, which come in one list, and their answers in another."""

from flatmessages.building import BEGIN, building_answer
from flatmessages.reading import asking_answer

LOAD = 0

# By a call's number: how many whole numbers it has, and which calls have a row behind them.
WHOLE_NUMBERS = {0: 0, 1: 0, 2: 1, 3: 1, 4: 1, 5: 1, 6: 2, 7: 2, 8: 1,
                 9: 0, 10: 2, 11: 0, 12: 1, 13: 0, 14: 1, 15: 0, 16: 0, 17: 0}
WITH_ROW = (0, 11, 13)


# The object that calls are on: what one call leaves for the next is kept here alone.
class Holder:
    def __init__(self):
        self.data = []
        self.trees = []


def load_answer(holder, row):
    """Takes the bytes as the message's, and tells what load answers."""
    holder.data = row
    return [0]


def call_answer(holder, call, numbers, row):
    """What one call answers."""
    if call == LOAD:
        return load_answer(holder, row)
    if call < BEGIN:
        return asking_answer(holder.data, call, numbers)
    return building_answer(holder, call, numbers, row)


def answers(calls):
    """The answers to all calls, each with how many numbers it has before it."""
    holder = Holder()
    given = []
    start = 0
    while start < len(calls):
        call = calls[start]
        end = start + 1 + WHOLE_NUMBERS[call]
        numbers = calls[start + 1:end]
        row = []
        if call in WITH_ROW:
            row_start = end + 1
            end = row_start + calls[end]
            row = calls[row_start:end]
        answer = call_answer(holder, call, numbers, row)
        given.append(len(answer))
        given.extend(answer)
        start = end
    return given
