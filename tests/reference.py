"""A second simulator, slow and plain, written after the document's words for comparison in the tests."""

import copy

WORDS = 2 ** 64


def mix(z):
    a = ((z ^ (z // 2 ** 30)) * 13787848793156543929) % WORDS
    b = ((a ^ (a // 2 ** 27)) * 10723151780598845931) % WORDS
    return b ^ (b // 2 ** 31)


def hashed(seed, *values):
    h = mix((seed + 11400714819323198485) % WORDS)
    for value in values:
        h = mix((h + 11400714819323198485 + value) % WORDS)
    return h


def draw(low, high, h):
    return low + h * (high + 1 - low) // WORDS


class Reference:
    """A network that is changed by its dicts, and one run of it."""

    def __init__(self, seed, station_count, class_count):
        self.seed = seed
        self.station_count = station_count
        self.stations = [{"servers": 1, "capacity": 0, "discipline": 0} for _ in range(station_count)]
        self.service = {(s, r): (1, 1) for s in range(station_count) for r in range(class_count)}
        self.source = {r: (0, 0, 0) for r in range(class_count)}
        self.weights = {(s, r): [0] * (station_count + 1) for s in range(station_count) for r in range(class_count)}

    def begin(self):
        self.time = 0
        self.executed = 0
        self.orders = 0
        self.people = []
        self.arrivals = {r: 0 for r in self.source}
        self.events = []
        # Every time that a customer spent at a station, from the coming on; nothing is summed up ahead.
        self.stays = []
        self.tallies = [
            {"accepted": 0, "served": 0, "lost": 0, "greatest": 0} for _ in range(self.station_count)
        ]
        for r in sorted(self.source):
            if self.source[r][1:] != (0, 0):
                self.plan(self.gap(r, 0), "arrival", r)
        return len(self.events)

    def gap(self, r, number):
        _, low, high = self.source[r]
        return draw(low, high, hashed(self.seed, 1, r, number))

    def plan(self, time, kind, who):
        self.events.append((time, self.orders, kind, who))
        self.orders += 1

    def at(self, station, state=None):
        """The customers at the station in the order in which they came to it."""
        found = [p for p in self.people if p["at"] == station and (state is None or p["state"] == state)]
        return sorted(found, key=lambda p: p["came"])

    def come(self, person, station):
        settings, tally = self.stations[station], self.tallies[station]
        if settings["capacity"] and len(self.at(station)) == settings["capacity"]:
            tally["lost"] += 1
            person["at"] = None
            person["end"] = "lost"
            return
        low, high = self.service[station, person["class"]]
        person["at"] = station
        person["state"] = "waiting"
        person["came"] = tally["accepted"]
        person["entered"] = self.time
        self.stays.append({"who": person["number"], "at": station, "from": self.time, "began": None, "until": None})
        person["service"] = draw(low, high, hashed(self.seed, 2, person["number"], person["before"]))
        tally["accepted"] += 1
        tally["greatest"] = max(tally["greatest"], len(self.at(station)))
        if len(self.at(station, "served")) < settings["servers"]:
            self.serve(person)

    def serve(self, person):
        person["state"] = "served"
        person["turn"] = self.orders
        self.stay(person)["began"] = self.time
        self.plan(self.time + person["service"], "end", person["number"])

    def stay(self, person):
        return [stay for stay in self.stays if stay["who"] == person["number"]][-1]

    def choose(self, station):
        waiting = self.at(station, "waiting")
        discipline = self.stations[station]["discipline"]
        if discipline == 0:
            return waiting[0]
        if discipline == 1:
            return waiting[-1]
        return min(waiting, key=lambda p: p["class"] if discipline == 2 else p["service"])

    def target(self, person):
        weights = self.weights[person["at"], person["class"]]
        if not any(weights):
            return self.station_count
        d = draw(0, sum(weights) - 1, hashed(self.seed, 3, person["number"], person["before"]))
        return min(j for j in range(len(weights)) if sum(weights[:j + 1]) > d)

    def execute(self):
        event = min(self.events)
        self.events.remove(event)
        self.time, _, kind, who = event
        self.executed += 1
        if kind == "arrival":
            self.arrivals[who] += 1
            self.plan(self.time + self.gap(who, self.arrivals[who]), "arrival", who)
            person = {
                "number": len(self.people), "class": who, "before": 0, "at": None, "state": None,
                "arrival": self.time, "end": None,
            }
            self.people.append(person)
            self.come(person, self.source[who][0])
            return
        person = self.people[who]
        station, target = person["at"], self.target(person)
        person["at"] = None
        self.stay(person)["until"] = self.time
        self.tallies[station]["served"] += 1
        if self.at(station, "waiting"):
            self.serve(self.choose(station))
        if target < self.station_count:
            person["before"] += 1
            self.come(person, target)
        else:
            person["end"] = self.time

    def step(self, count):
        before = self.executed
        while self.executed < before + count and self.events:
            self.execute()
        return self.time, self.executed - before

    def run_until(self, time):
        before = self.executed
        while self.events and min(self.events)[0] <= time:
            self.execute()
        self.time = time
        return self.executed - before

    def clock(self):
        return self.time, self.executed, len(self.events)

    def station_counts(self, station):
        tally = self.tallies[station]
        return (
            tally["accepted"], tally["served"], tally["lost"],
            len(self.at(station, "served")), len(self.at(station, "waiting")), tally["greatest"],
        )

    def station_areas(self, station):
        stays = [stay for stay in self.stays if stay["at"] == station]
        ends = [self.time if stay["until"] is None else stay["until"] for stay in stays]
        area = sum(end - stay["from"] for stay, end in zip(stays, ends))
        busy = sum(end - stay["began"] for stay, end in zip(stays, ends) if stay["began"] is not None)
        return area, busy, self.time

    def little(self, station):
        stays = [stay for stay in self.stays if stay["at"] == station]
        sojourns = sum(stay["until"] - stay["from"] for stay in stays if stay["until"] is not None)
        present = sum(self.time - person["entered"] for person in self.at(station))
        return self.station_areas(station)[0], sojourns, present

    def class_counts(self, number):
        people = [person for person in self.people if person["class"] == number]
        lost = [person for person in people if person["end"] == "lost"]
        times = [p["end"] - p["arrival"] for p in people if p["end"] is not None and p not in lost]
        return len(people), len(times), len(lost), sum(times), max(times, default=0)

    def served_people(self, station):
        return sorted(self.at(station, "served"), key=lambda person: person["turn"])

    def serving(self, station):
        people = self.served_people(station)
        return (len(people), *[person["number"] for person in people])

    def queue(self, station):
        people = self.at(station, "waiting")
        return (len(people), *[person["number"] for person in people])

    def job_info(self, customer):
        if customer >= len(self.people) or self.people[customer]["at"] is None:
            return -2
        person = self.people[customer]
        return (
            person["class"], person["at"], person["arrival"], person["entered"], person["before"], person["service"],
            int(person["state"] == "served"),
        )

    def told_events(self):
        """Each planned event in order: time, order number, 1 for an arrival, class or station, customer."""
        for time, order, kind, who in sorted(self.events):
            if kind == "arrival":
                yield time, order, 1, who, 0
            else:
                yield time, order, 0, self.people[who]["at"], who

    def next_events(self, count):
        events = list(self.told_events())[:count]
        told = [number for time, _, *others in events for number in (time, *others)]
        return (len(events), *told)

    def digest(self):
        told = [self.time, self.orders, len(self.people), self.executed]
        for station in range(self.station_count):
            accepted, served, lost, serving, waiting, greatest = self.station_counts(station)
            area, busy, _ = self.station_areas(station)
            told += [accepted, served, lost, area, busy, self.little(station)[1], greatest, serving, waiting]
            for p in self.served_people(station) + self.at(station, "waiting"):
                told += [p["number"], p["class"], p["arrival"], p["entered"], p["before"], p["service"]]
        for number in sorted(self.source):
            told += self.class_counts(number)
        for event in self.told_events():
            told += event
        return hashed(0, *told)

    def equals(self, other):
        return int(vars(self) == vars(other))

    def answer(self, name, *arguments):
        """What a call that only looks answers, as tests.calling reads it: a lone number stands for itself."""
        answer = getattr(self, name)(*arguments)
        return answer[0] if isinstance(answer, tuple) and len(answer) == 1 else answer

    def twin(self):
        return copy.deepcopy(self)
