"""The operations that only look at an instance, from number 10 on: each gives back what it answers."""

from waitworks.instance import EMPTY_CHECKPOINT, NO_RUN, NOT_THERE, OUT_OF_RANGE
from waitworks.instance import has_checkpoint, has_class, has_station
from waitworks.state import describe_class, describe_run, waiting_as_they_came
from waitworks.words import draw_between, hash_word

DIGEST_SEED = 0


def clock(instance, arguments):
    run = instance.run
    return [run.time, run.executed, len(run.planned)]


def station_counts(instance, arguments):
    place = arguments[0]
    if not has_station(instance, place):
        return [NOT_THERE]
    state = instance.run.stations[place]
    return [state.accepted, state.served, state.lost, len(state.serving), len(state.waiting), state.greatest]


def station_areas(instance, arguments):
    place = arguments[0]
    if not has_station(instance, place):
        return [NOT_THERE]
    state = instance.run.stations[place]
    return [state.area, state.busy_area, instance.run.time]


def little(instance, arguments):
    place = arguments[0]
    if not has_station(instance, place):
        return [NOT_THERE]
    state = instance.run.stations[place]
    visits = state.serving + waiting_as_they_came(state)
    return [state.area, state.sojourns, sum([instance.run.time - visit.entered for visit in visits])]


def class_counts(instance, arguments):
    class_number = arguments[0]
    if not has_class(instance, class_number):
        return [NOT_THERE]
    return describe_class(instance.run.classes[class_number])


def list_customers(visits):
    return [len(visits)] + [visit.customer.number for visit in visits]


def serving(instance, arguments):
    place = arguments[0]
    if not has_station(instance, place):
        return [NOT_THERE]
    return list_customers(instance.run.stations[place].serving)


def queue(instance, arguments):
    place = arguments[0]
    if not has_station(instance, place):
        return [NOT_THERE]
    return list_customers(waiting_as_they_came(instance.run.stations[place]))


def tell_visit(place, visit, is_serving):
    customer = visit.customer
    return [
        customer.class_number, place, customer.arrival, visit.entered, visit.visits_before, visit.service, is_serving,
    ]


def job_info(instance, arguments):
    number = arguments[0]
    for place, state in enumerate(instance.run.stations):
        for visit in state.serving:
            if visit.customer.number == number:
                return tell_visit(place, visit, 1)
        for visit in waiting_as_they_came(state):
            if visit.customer.number == number:
                return tell_visit(place, visit, 0)
    return [NOT_THERE]


def next_events(instance, arguments):
    events = instance.run.planned[:arguments[0]]
    numbers = [len(events)]
    for time, order, is_arrival, place, customer in events:
        numbers.extend([time, is_arrival, place, customer])
    return numbers


def compare(instance, arguments):
    slot = arguments[0]
    if not has_checkpoint(slot):
        return [NOT_THERE]
    if instance.run is None:
        return [NO_RUN]
    if instance.checkpoints[slot] is None:
        return [EMPTY_CHECKPOINT]
    return [int(describe_run(instance.run) == describe_run(instance.checkpoints[slot]))]


def draw(instance, arguments):
    lower, upper, values = arguments
    if lower > upper:
        return [OUT_OF_RANGE]
    return [draw_between(lower, upper, hash_word(instance.network.seed, values))]


def digest(instance, arguments):
    return [hash_word(DIGEST_SEED, describe_run(instance.run))]


def summary(instance, arguments):
    network = instance.network
    saved = [run for run in instance.checkpoints if run is not None]
    return [len(network.stations), len(network.sources), int(instance.run is not None), len(saved)]


FIRST_LOOK = 10
COMPARE = 19
DRAW = 20
SUMMARY = 22

# Each operation stands at the place of its number, counted from the first look.
LOOKS = (
    clock,
    station_counts,
    station_areas,
    little,
    class_counts,
    serving,
    queue,
    job_info,
    next_events,
    compare,
    draw,
    digest,
    summary,
)


def look(instance, number, arguments):
    if instance.run is None and number not in (COMPARE, DRAW, SUMMARY):
        return [NO_RUN]
    operation = LOOKS[number - FIRST_LOOK]
    return operation(instance, arguments)
