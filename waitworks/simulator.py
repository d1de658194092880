"""The interface: calls come in one list of whole numbers, and their answers go out in another."""

from waitworks.instance import Instance
from waitworks.operations import perform

# How many whole numbers a call has, by its number; the row, if it has one, comes behind them.
WHOLE_NUMBERS = (3, 4, 4, 4, 2, 0, 1, 1, 1, 1, 0, 1, 1, 1, 1, 1, 1, 1, 1, 1, 2, 0, 0)
SET_ROUTE = 4
DRAW = 20


def read_call(calls, place):
    number = calls[place]
    end = place + 1 + WHOLE_NUMBERS[number]
    arguments = calls[place + 1:end]
    if number in (SET_ROUTE, DRAW):
        start = end + 1
        end = start + calls[start - 1]
        arguments.append(calls[start:end])
    return number, arguments, end


def answers(calls):
    instance = Instance()
    answered = []
    place = 0
    while place < len(calls):
        number, arguments, place = read_call(calls, place)
        answer = perform(instance, number, arguments)
        answered.append(len(answer))
        answered.extend(answer)
    return answered
