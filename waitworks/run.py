"""A run of a network: its customers, its planned events, and how these are executed."""

from waitworks.words import draw_between, hash_word

# The first of the values that are hashed: it keeps the three kinds of draws apart.
GAP = 1
SERVICE = 2
ROUTE = 3

LAST_COME = 1
SMALLEST_CLASS = 2
SHORTEST_SERVICE = 3


# A visit is never changed once it is made, so that a run and its copies can share it.
class Visit:
    def __init__(self, customer, class_number, visits_before, service):
        self.customer = customer
        self.class_number = class_number
        self.visits_before = visits_before
        self.service = service


class StationState:
    def __init__(self):
        self.accepted = 0
        self.served = 0
        self.lost = 0
        self.greatest = 0
        # Visits, in the order in which their services began.
        self.serving = []
        # Rows (rank, number of coming, visit), rising: the first one is chosen next.
        self.waiting = []


class Run:
    def __init__(self, network):
        self.network = network
        self.time = 0
        self.executed = 0
        self.next_order = 0
        self.arrivals = [0] * len(network.sources)
        self.stations = [StationState() for station in network.stations]
        # Rows (time, order number, is_arrival, class or station, customer), rising.
        self.planned = []


def begin_run(network):
    run = Run(network)
    for class_number, source in enumerate(network.sources):
        if source.high > 0:
            plan_arrival(run, class_number)
    return run


def copy_state(state):
    copied = StationState()
    copied.accepted = state.accepted
    copied.served = state.served
    copied.lost = state.lost
    copied.greatest = state.greatest
    copied.serving = list(state.serving)
    copied.waiting = list(state.waiting)
    return copied


# The network is shared: whatever changes it ends all of its runs.
def copy_run(run):
    copied = Run(run.network)
    copied.time = run.time
    copied.executed = run.executed
    copied.next_order = run.next_order
    copied.arrivals = list(run.arrivals)
    copied.stations = [copy_state(state) for state in run.stations]
    copied.planned = list(run.planned)
    return copied


# The place is found by halving, since a queue without a limit can grow long.
def put_in_order(rows, row):
    start = 0
    end = len(rows)
    while start < end:
        middle = (start + end) // 2
        if rows[middle] < row:
            start = middle + 1
        else:
            end = middle
    rows.insert(start, row)


def plan(run, delay, is_arrival, place, customer):
    put_in_order(run.planned, (run.time + delay, run.next_order, is_arrival, place, customer))
    run.next_order += 1


def plan_arrival(run, class_number):
    source = run.network.sources[class_number]
    word = hash_word(run.network.seed, (GAP, class_number, run.arrivals[class_number]))
    plan(run, draw_between(source.low, source.high, word), 1, class_number, 0)


def customers_present(state):
    return len(state.serving) + len(state.waiting)


def begin_service(run, place, visit):
    state = run.stations[place]
    state.serving.append(visit)
    plan(run, visit.service, 0, place, visit.customer)


# The smallest rank is chosen first, and of several the one who came first.
def waiting_rank(discipline, came, visit):
    if discipline == LAST_COME:
        return -came
    if discipline == SMALLEST_CLASS:
        return visit.class_number
    if discipline == SHORTEST_SERVICE:
        return visit.service
    return came


def make_visit(network, place, customer, class_number, visits_before):
    low, high = network.stations[place].service_ranges[class_number]
    word = hash_word(network.seed, (SERVICE, customer, visits_before))
    return Visit(customer, class_number, visits_before, draw_between(low, high, word))


def come_to_station(run, place, customer, class_number, visits_before):
    station = run.network.stations[place]
    state = run.stations[place]
    if station.capacity > 0 and customers_present(state) >= station.capacity:
        state.lost += 1
        return
    visit = make_visit(run.network, place, customer, class_number, visits_before)
    came = state.accepted
    state.accepted += 1
    if len(state.serving) < station.servers:
        begin_service(run, place, visit)
    else:
        put_in_order(state.waiting, (waiting_rank(station.discipline, came, visit), came, visit))
    state.greatest = max(state.greatest, customers_present(state))


# The answer is the number of a station, or the number of stations for leaving.
def draw_next_station(network, place, visit):
    weights = network.stations[place].weights[visit.class_number]
    total = sum(weights)
    if total == 0:
        return len(network.stations)
    word = hash_word(network.seed, (ROUTE, visit.customer, visit.visits_before))
    drawn = draw_between(0, total - 1, word)
    target = 0
    reached = weights[0]
    while reached <= drawn:
        target += 1
        reached += weights[target]
    return target


def take_from_service(state, customer):
    position = 0
    while state.serving[position].customer != customer:
        position += 1
    return state.serving.pop(position)


def execute_arrival(run, class_number):
    customer = sum(run.arrivals)
    run.arrivals[class_number] += 1
    plan_arrival(run, class_number)
    come_to_station(run, run.network.sources[class_number].station, customer, class_number, 0)


def execute_end_of_service(run, place, customer):
    state = run.stations[place]
    visit = take_from_service(state, customer)
    state.served += 1
    # The server chooses before the customer moves on, who may come back to this very station.
    if len(state.waiting) > 0:
        chosen = state.waiting.pop(0)
        begin_service(run, place, chosen[2])
    target = draw_next_station(run.network, place, visit)
    if target < len(run.stations):
        come_to_station(run, target, customer, visit.class_number, visit.visits_before + 1)


def has_event_until(run, time):
    return len(run.planned) > 0 and run.planned[0][0] <= time


def execute_next_event(run):
    time, order, is_arrival, place, customer = run.planned.pop(0)
    run.time = time
    run.executed += 1
    if is_arrival == 1:
        execute_arrival(run, place)
    else:
        execute_end_of_service(run, place, customer)
