"""Calls by name for the tests: written out as one list of numbers, and their answers read back."""

from waitworks.simulator import answers

NUMBERS = {
    "create": 0,
    "set_station": 1,
    "set_service": 2,
    "set_source": 3,
    "set_route": 4,
    "begin": 5,
    "step": 6,
    "run_until": 7,
    "checkpoint": 8,
    "restore": 9,
    "clock": 10,
    "station_counts": 11,
}

LARGEST = 4294967295


def write_calls(calls):
    numbers = []
    for name, *arguments in calls:
        numbers.append(NUMBERS[name])
        for argument in arguments:
            if isinstance(argument, list):
                numbers.append(len(argument))
                numbers.extend(argument)
            else:
                numbers.append(argument)
    return numbers


def read_answers(numbers):
    found = []
    place = 0
    while place < len(numbers):
        end = place + 1 + numbers[place]
        found.append(tuple(numbers[place + 1:end]))
        place = end
    return found


def ask(*calls):
    """The answers to these calls, a tuple for each; a lone number stands for itself."""
    numbers = write_calls(calls)
    handed_in = list(numbers)
    answered = answers(handed_in)
    if handed_in != numbers:
        raise AssertionError("the list that was handed in has changed")
    if type(answered) is not list or any(type(number) is not int for number in answered):
        raise AssertionError("something else than a list of whole numbers came back")
    found = read_answers(answered)
    if len(found) != len(calls) or any(len(answer) == 0 for answer in found):
        raise AssertionError("there is not one answer for each call")
    return [answer[0] if len(answer) == 1 else answer for answer in found]


def ask_last(*calls):
    return ask(*calls)[-1]
