"""Calls by name for the tests: written out as one list of numbers, and their answers read back."""

from waitworks.simulator import answers

NUMBERS = {
    "create": 0,
    "set_station": 1,
    "set_service": 2,
    "set_source": 3,
    "set_route": 4,
    "begin": 5,
    "step": 6,
    "run_until": 7,
    "checkpoint": 8,
    "restore": 9,
    "clock": 10,
    "station_counts": 11,
    "station_areas": 12,
    "little": 13,
    "class_counts": 14,
    "serving": 15,
    "queue": 16,
    "job_info": 17,
    "next_events": 18,
    "compare": 19,
    "draw": 20,
    "digest": 21,
    "summary": 22,
}

LARGEST = 4294967295

# Two classes that wait, are lost and move on between two stations, all by draws.
BUSY = (
    ("create", 99, 2, 2),
    ("set_station", 0, 2, 5, 3), ("set_station", 1, 1, 0, 2),
    ("set_service", 0, 0, 2, 30), ("set_service", 0, 1, 5, 9),
    ("set_service", 1, 0, 3, 8), ("set_service", 1, 1, 1, 40),
    ("set_source", 0, 0, 1, 20), ("set_source", 1, 1, 2, 30),
    ("set_route", 0, 0, [1, 2, 1]), ("set_route", 1, 0, [1, 0, 2]), ("set_route", 1, 1, [3, 1, 4]),
    ("begin",),
)


def write_calls(calls):
    numbers = []
    for name, *arguments in calls:
        numbers.append(NUMBERS[name])
        for argument in arguments:
            if isinstance(argument, list):
                numbers.append(len(argument))
                numbers.extend(argument)
            else:
                numbers.append(argument)
    return numbers


def read_answers(numbers):
    found = []
    place = 0
    while place < len(numbers):
        end = place + 1 + numbers[place]
        found.append(tuple(numbers[place + 1:end]))
        place = end
    return found


def ask(*calls):
    """The answers to these calls, a tuple for each; a lone number stands for itself."""
    numbers = write_calls(calls)
    handed_in = list(numbers)
    answered = answers(handed_in)
    if handed_in != numbers:
        raise AssertionError("the list that was handed in has changed")
    if type(answered) is not list or any(type(number) is not int for number in answered):
        raise AssertionError("something else than a list of whole numbers came back")
    found = read_answers(answered)
    if len(found) != len(calls) or any(len(answer) == 0 for answer in found):
        raise AssertionError("there is not one answer for each call")
    return [answer[0] if len(answer) == 1 else answer for answer in found]


def ask_last(*calls):
    return ask(*calls)[-1]


STATION_LOOKS = ("station_counts", "station_areas", "little", "serving", "queue")


def all_looks(station_count, class_count, customers=(0, 1, 2, 5, 20)):
    """Calls that look at all that a run shows; `customers` are those who are asked for one by one."""
    return [
        ("clock",),
        *[(name, station) for station in range(station_count) for name in STATION_LOOKS],
        *[("class_counts", number) for number in range(class_count)],
        *[("job_info", customer) for customer in customers],
        ("next_events", LARGEST),
        ("digest",),
    ]
