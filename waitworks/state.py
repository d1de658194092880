"""What a run holds: its customers, its stations, its classes and its planned events."""


# Customers and visits are never changed once they are made, so that a run and its copies can share them.
class Customer:
    def __init__(self, number, class_number, arrival):
        self.number = number
        self.class_number = class_number
        self.arrival = arrival


class Visit:
    def __init__(self, customer, entered, visits_before, service):
        self.customer = customer
        self.entered = entered
        self.visits_before = visits_before
        self.service = service


class StationState:
    def __init__(self):
        self.accepted = 0
        self.served = 0
        self.lost = 0
        self.area = 0
        self.busy_area = 0
        self.sojourns = 0
        self.greatest = 0
        # Visits, in the order in which their services began.
        self.serving = []
        # Rows (rank, number of coming, visit), rising: the first one is chosen next.
        self.waiting = []


class ClassCounts:
    def __init__(self):
        self.arrived = 0
        self.left = 0
        self.lost = 0
        self.time_sum = 0
        self.longest = 0


class Run:
    def __init__(self, network):
        self.network = network
        self.time = 0
        self.executed = 0
        self.next_order = 0
        self.stations = [StationState() for station in network.stations]
        self.classes = [ClassCounts() for source in network.sources]
        # Rows (time, order number, is_arrival, class or station, customer's number), rising.
        self.planned = []


def copy_station(state):
    copied = StationState()
    copied.accepted = state.accepted
    copied.served = state.served
    copied.lost = state.lost
    copied.area = state.area
    copied.busy_area = state.busy_area
    copied.sojourns = state.sojourns
    copied.greatest = state.greatest
    copied.serving = list(state.serving)
    copied.waiting = list(state.waiting)
    return copied


def copy_class(counts):
    copied = ClassCounts()
    copied.arrived = counts.arrived
    copied.left = counts.left
    copied.lost = counts.lost
    copied.time_sum = counts.time_sum
    copied.longest = counts.longest
    return copied


# The network is shared: whatever changes it ends all of its runs.
def copy_run(run):
    copied = Run(run.network)
    copied.time = run.time
    copied.executed = run.executed
    copied.next_order = run.next_order
    copied.stations = [copy_station(state) for state in run.stations]
    copied.classes = [copy_class(counts) for counts in run.classes]
    copied.planned = list(run.planned)
    return copied


def customers_arrived(run):
    return sum([counts.arrived for counts in run.classes])


def customers_present(state):
    return len(state.serving) + len(state.waiting)


# The rows stand in the order in which they will be chosen, which need not be that of their coming.
def waiting_as_they_came(state):
    return [row[2] for row in sorted(state.waiting, key=lambda row: row[1])]


def describe_visit(visit):
    customer = visit.customer
    return [
        customer.number, customer.class_number, customer.arrival, visit.entered, visit.visits_before, visit.service,
    ]


def describe_station(state):
    numbers = [
        state.accepted, state.served, state.lost, state.area, state.busy_area, state.sojourns, state.greatest,
        len(state.serving), len(state.waiting),
    ]
    for visit in state.serving + waiting_as_they_came(state):
        numbers.extend(describe_visit(visit))
    return numbers


def describe_class(counts):
    return [counts.arrived, counts.left, counts.lost, counts.time_sum, counts.longest]


# These numbers tell all that a run of a given network holds: two runs that differ have others.
def describe_run(run):
    numbers = [run.time, run.next_order, customers_arrived(run), run.executed]
    for state in run.stations:
        numbers.extend(describe_station(state))
    for counts in run.classes:
        numbers.extend(describe_class(counts))
    for event in run.planned:
        numbers.extend(event)
    return numbers
