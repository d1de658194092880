"""The operations that change an instance: each takes its arguments and gives back what it answers."""

from waitworks.instance import EMPTY_CHECKPOINT, NO_INSTANCE, NO_RUN, NOT_THERE, OUT_OF_RANGE, TOO_MANY_EVENTS
from waitworks.instance import forget_runs, has_checkpoint, has_class, has_station
from waitworks.looks import FIRST_LOOK, look
from waitworks.network import Network, Source
from waitworks.run import begin_run, execute_next_event, has_event_until, move_time
from waitworks.state import copy_run

MOST_STATIONS = 4
MOST_CLASSES = 3
MOST_SERVERS = 8
MOST_CAPACITY = 100
LAST_DISCIPLINE = 3
LONGEST_TIME = 10000
MOST_WEIGHT = 1000
MOST_EVENTS = 500
LATEST_TIME = 1000000


def is_range_of_times(low, high):
    return 1 <= low <= high <= LONGEST_TIME


def create(instance, arguments):
    seed, station_count, class_count = arguments
    if not (1 <= station_count <= MOST_STATIONS and 1 <= class_count <= MOST_CLASSES):
        return [OUT_OF_RANGE]
    instance.network = Network(seed, station_count, class_count)
    forget_runs(instance)
    return [0]


def set_station(instance, arguments):
    place, servers, capacity, discipline = arguments
    if not has_station(instance, place):
        return [NOT_THERE]
    if not 1 <= servers <= MOST_SERVERS:
        return [OUT_OF_RANGE]
    if capacity != 0 and not servers <= capacity <= MOST_CAPACITY:
        return [OUT_OF_RANGE]
    if discipline > LAST_DISCIPLINE:
        return [OUT_OF_RANGE]
    station = instance.network.stations[place]
    station.servers = servers
    station.capacity = capacity
    station.discipline = discipline
    forget_runs(instance)
    return [0]


def set_service(instance, arguments):
    place, class_number, low, high = arguments
    if not (has_station(instance, place) and has_class(instance, class_number)):
        return [NOT_THERE]
    if not is_range_of_times(low, high):
        return [OUT_OF_RANGE]
    instance.network.stations[place].service_ranges[class_number] = (low, high)
    forget_runs(instance)
    return [0]


def set_source(instance, arguments):
    class_number, place, low, high = arguments
    if not (has_class(instance, class_number) and has_station(instance, place)):
        return [NOT_THERE]
    if not (is_range_of_times(low, high) or (low == 0 and high == 0)):
        return [OUT_OF_RANGE]
    instance.network.sources[class_number] = Source(place, low, high)
    forget_runs(instance)
    return [0]


def set_route(instance, arguments):
    place, class_number, weights = arguments
    if not (has_station(instance, place) and has_class(instance, class_number)):
        return [NOT_THERE]
    if len(weights) != len(instance.network.stations) + 1 or max(weights) > MOST_WEIGHT:
        return [OUT_OF_RANGE]
    instance.network.stations[place].weights[class_number] = tuple(weights)
    forget_runs(instance)
    return [sum(weights)]


def begin(instance, arguments):
    instance.run = begin_run(instance.network)
    return [len(instance.run.planned)]


def step(instance, arguments):
    run = instance.run
    count = arguments[0]
    if run is None:
        return [NO_RUN]
    if not 1 <= count <= MOST_EVENTS:
        return [OUT_OF_RANGE]
    executed = 0
    while executed < count and len(run.planned) > 0:
        execute_next_event(run)
        executed += 1
    return [run.time, executed]


# Whether there are too many events shows only as they are executed: a copy is what they are tried on.
def run_until(instance, arguments):
    time = arguments[0]
    if instance.run is None:
        return [NO_RUN]
    if not instance.run.time <= time <= LATEST_TIME:
        return [OUT_OF_RANGE]
    tried = copy_run(instance.run)
    executed = 0
    while has_event_until(tried, time):
        if executed == MOST_EVENTS:
            return [TOO_MANY_EVENTS]
        execute_next_event(tried)
        executed += 1
    move_time(tried, time)
    instance.run = tried
    return [executed]


def checkpoint(instance, arguments):
    slot = arguments[0]
    if not has_checkpoint(slot):
        return [NOT_THERE]
    if instance.run is None:
        return [NO_RUN]
    instance.checkpoints[slot] = copy_run(instance.run)
    return [0]


def restore(instance, arguments):
    slot = arguments[0]
    if not has_checkpoint(slot):
        return [NOT_THERE]
    if instance.checkpoints[slot] is None:
        return [EMPTY_CHECKPOINT]
    instance.run = copy_run(instance.checkpoints[slot])
    return [instance.run.time]


CREATE = 0

# Each operation stands at the place of its number.
CHANGES = (
    create,
    set_station,
    set_service,
    set_source,
    set_route,
    begin,
    step,
    run_until,
    checkpoint,
    restore,
)


def perform(instance, number, arguments):
    if number != CREATE and instance.network is None:
        return [NO_INSTANCE]
    if number >= FIRST_LOOK:
        return look(instance, number, arguments)
    operation = CHANGES[number]
    return operation(instance, arguments)
