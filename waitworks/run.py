"""How a run begins, how its time goes on, and how its events are planned and executed."""

from waitworks.state import Customer, Run, Visit, customers_arrived, customers_present
from waitworks.words import draw_between, hash_word

# The first of the values that are hashed: it keeps the three kinds of draws apart.
GAP = 1
SERVICE = 2
ROUTE = 3

LAST_COME = 1
SMALLEST_CLASS = 2
SHORTEST_SERVICE = 3


def begin_run(network):
    run = Run(network)
    for class_number, source in enumerate(network.sources):
        if source.high > 0:
            plan_arrival(run, class_number)
    return run


# The areas grow whenever the time does, so that a run doesn't show on which way it came to its state.
def move_time(run, time):
    passed = time - run.time
    for state in run.stations:
        state.area += passed * customers_present(state)
        state.busy_area += passed * len(state.serving)
    run.time = time


# The place is found by halving, since a queue without a limit can grow long.
def put_in_order(rows, row):
    start = 0
    end = len(rows)
    while start < end:
        middle = (start + end) // 2
        if rows[middle] < row:
            start = middle + 1
        else:
            end = middle
    rows.insert(start, row)


def plan(run, delay, is_arrival, place, number):
    put_in_order(run.planned, (run.time + delay, run.next_order, is_arrival, place, number))
    run.next_order += 1


def plan_arrival(run, class_number):
    source = run.network.sources[class_number]
    word = hash_word(run.network.seed, (GAP, class_number, run.classes[class_number].arrived))
    plan(run, draw_between(source.low, source.high, word), 1, class_number, 0)


def begin_service(run, place, visit):
    state = run.stations[place]
    state.serving.append(visit)
    plan(run, visit.service, 0, place, visit.customer.number)


# The smallest rank is chosen first, and of several the one who came first.
def waiting_rank(discipline, came, visit):
    if discipline == LAST_COME:
        return -came
    if discipline == SMALLEST_CLASS:
        return visit.customer.class_number
    if discipline == SHORTEST_SERVICE:
        return visit.service
    return came


def make_visit(run, place, customer, visits_before):
    low, high = run.network.stations[place].service_ranges[customer.class_number]
    word = hash_word(run.network.seed, (SERVICE, customer.number, visits_before))
    return Visit(customer, run.time, visits_before, draw_between(low, high, word))


def lose_customer(run, place, customer):
    state = run.stations[place]
    state.lost += 1
    counts = run.classes[customer.class_number]
    counts.lost += 1


def accept_customer(run, place, customer, visits_before):
    station = run.network.stations[place]
    state = run.stations[place]
    visit = make_visit(run, place, customer, visits_before)
    came = state.accepted
    state.accepted += 1
    if len(state.serving) < station.servers:
        begin_service(run, place, visit)
    else:
        put_in_order(state.waiting, (waiting_rank(station.discipline, came, visit), came, visit))
    state.greatest = max(state.greatest, customers_present(state))


def come_to_station(run, place, customer, visits_before):
    capacity = run.network.stations[place].capacity
    if capacity > 0 and customers_present(run.stations[place]) >= capacity:
        lose_customer(run, place, customer)
    else:
        accept_customer(run, place, customer, visits_before)


def leave_network(run, customer):
    counts = run.classes[customer.class_number]
    duration = run.time - customer.arrival
    counts.left += 1
    counts.time_sum += duration
    counts.longest = max(counts.longest, duration)


# The answer is the number of a station, or the number of stations for leaving.
def draw_next_station(network, place, visit):
    weights = network.stations[place].weights[visit.customer.class_number]
    total = sum(weights)
    if total == 0:
        return len(network.stations)
    word = hash_word(network.seed, (ROUTE, visit.customer.number, visit.visits_before))
    drawn = draw_between(0, total - 1, word)
    target = 0
    reached = weights[0]
    while reached <= drawn:
        target += 1
        reached += weights[target]
    return target


def take_from_service(state, number):
    position = 0
    while state.serving[position].customer.number != number:
        position += 1
    return state.serving.pop(position)


def execute_arrival(run, class_number):
    customer = Customer(customers_arrived(run), class_number, run.time)
    counts = run.classes[class_number]
    counts.arrived += 1
    plan_arrival(run, class_number)
    come_to_station(run, run.network.sources[class_number].station, customer, 0)


def execute_end_of_service(run, place, number):
    state = run.stations[place]
    visit = take_from_service(state, number)
    state.served += 1
    state.sojourns += run.time - visit.entered
    # The server chooses before the customer moves on, who may come back to this very station.
    if len(state.waiting) > 0:
        chosen = state.waiting.pop(0)
        begin_service(run, place, chosen[2])
    target = draw_next_station(run.network, place, visit)
    if target < len(run.stations):
        come_to_station(run, target, visit.customer, visit.visits_before + 1)
    else:
        leave_network(run, visit.customer)


def has_event_until(run, time):
    return len(run.planned) > 0 and run.planned[0][0] <= time


def execute_next_event(run):
    time, order, is_arrival, place, number = run.planned.pop(0)
    move_time(run, time)
    run.executed += 1
    if is_arrival == 1:
        execute_arrival(run, place)
    else:
        execute_end_of_service(run, place, number)
