"""The four disciplines and their ties: whom a free server chooses, and when it does so."""

import itertools
import unittest

from tests import reference
from tests.calling import ask

FIRST_COME, LAST_COME, SMALLEST_CLASS, SHORTEST_SERVICE = range(4)


def classes_in_order_of_service(discipline, coming, services):
    """The classes come to station 0 at 1000, 1001 and 1002; which one is served when, told by its next station."""
    calls = [("create", 1, 4, 3), ("set_station", 0, 1, 0, discipline)]
    for number in range(3):
        gap = 1000 + coming.index(number)
        calls += [
            ("set_source", number, 0, gap, gap),
            ("set_service", 0, number, services[number], services[number]),
            ("set_route", 0, number, [0] * (number + 1) + [1] + [0] * (3 - number)),
        ]
    calls += [("begin",), ("step", 3)]
    for _ in range(6):
        calls += [("step", 1), *[("station_counts", station) for station in (1, 2, 3)]]
    answered = ask(*calls)[-24:]
    order = []
    for place in range(0, 24, 4):
        order += [number for number in range(3) if answered[place + 1 + number][0] == 1 and number not in order]
    return order


def ends_of_services(seed, discipline, count):
    """When the services of one class end that comes at 1, 2, 3 and so on, as long as its queue only grows."""
    answered = ask(
        ("create", seed, 1, 1), ("set_station", 0, 1, 0, discipline), ("set_service", 0, 0, 60, 90),
        ("set_source", 0, 0, 1, 1), ("begin",),
        *[call for time in range(60, 60 + 90 * count) for call in (("run_until", time), ("station_counts", 0))],
    )
    served = [answer[1] for answer in answered[6::2]]
    return [60 + served.index(number) for number in range(1, count + 1)]


class Disciplines(unittest.TestCase):
    SERVICES = [30, 20, 10]

    def arrangements(self):
        for coming in itertools.permutations(range(3)):
            for services in itertools.permutations(self.SERVICES):
                yield coming, services

    def test_who_came_first(self):
        for coming, services in self.arrangements():
            self.assertEqual(classes_in_order_of_service(FIRST_COME, coming, services), list(coming))

    def test_who_came_last(self):
        for coming, services in self.arrangements():
            expected = [coming[0], coming[2], coming[1]]
            self.assertEqual(classes_in_order_of_service(LAST_COME, coming, services), expected)

    def test_the_smallest_class(self):
        for coming, services in self.arrangements():
            expected = [coming[0], *sorted(coming[1:])]
            self.assertEqual(classes_in_order_of_service(SMALLEST_CLASS, coming, services), expected)

    def test_the_shortest_service(self):
        for coming, services in self.arrangements():
            expected = [coming[0], *sorted(coming[1:], key=lambda number: services[number])]
            self.assertEqual(classes_in_order_of_service(SHORTEST_SERVICE, coming, services), expected)

    def test_of_equally_short_services_the_one_who_came_first(self):
        for coming in itertools.permutations(range(3)):
            self.assertEqual(classes_in_order_of_service(SHORTEST_SERVICE, coming, [10, 10, 10]), list(coming))


class OneClass(unittest.TestCase):
    SEED = 4

    def service(self, customer):
        return reference.draw(60, 90, reference.hashed(self.SEED, 2, customer, 0))

    def expected(self, choose):
        """The ends of five services if `choose` picks one of the customers who wait."""
        waiting = []
        come = 1
        time = 1 + self.service(0)
        ends = [time]
        while len(ends) < 5:
            # An arrival at the same time as the end of a service was planned later than this end.
            while come + 1 < time:
                waiting.append(come)
                come += 1
            customer = choose(waiting)
            waiting.remove(customer)
            time += self.service(customer)
            ends.append(time)
        return ends

    def test_who_came_first(self):
        self.assertEqual(ends_of_services(self.SEED, FIRST_COME, 5), self.expected(lambda waiting: waiting[0]))

    def test_who_came_last(self):
        self.assertEqual(ends_of_services(self.SEED, LAST_COME, 5), self.expected(lambda waiting: waiting[-1]))

    def test_of_one_class_the_one_who_came_first(self):
        self.assertEqual(ends_of_services(self.SEED, SMALLEST_CLASS, 5), self.expected(lambda waiting: waiting[0]))

    def test_the_shortest_service_is_that_of_the_customer(self):
        expected = self.expected(lambda waiting: min(waiting, key=self.service))
        self.assertEqual(ends_of_services(self.SEED, SHORTEST_SERVICE, 5), expected)

    def test_these_orders_differ(self):
        # Otherwise the tests above could not tell one discipline from another.
        first = self.expected(lambda waiting: waiting[0])
        last = self.expected(lambda waiting: waiting[-1])
        shortest = self.expected(lambda waiting: min(waiting, key=self.service))
        self.assertEqual(len({tuple(first), tuple(last), tuple(shortest)}), 3)


class Choosing(unittest.TestCase):
    def test_the_server_chooses_before_the_served_customer_comes_back(self):
        # Class 0 comes back for ever; whichever the discipline, class 1 waits for one service alone.
        for discipline in range(4):
            for other in (0, 1):
                back, leaving = other, 1 - other
                answered = ask(
                    ("create", 1, 2, 2), ("set_station", 0, 1, 0, discipline),
                    ("set_service", 0, back, 10, 10), ("set_service", 0, leaving, 20, 20),
                    ("set_source", back, 0, 1000, 1000), ("set_source", leaving, 0, 1001, 1001),
                    ("set_route", 0, back, [1, 0, 0]), ("set_route", 0, leaving, [0, 1, 0]),
                    ("begin",), ("run_until", 1010), ("station_counts", 0),
                    ("run_until", 1029), ("station_counts", 1), ("run_until", 1030), ("station_counts", 1),
                )
                self.assertEqual(answered[-5], (3, 1, 0, 1, 1, 2))
                self.assertEqual([answered[-3][0], answered[-1][0]], [0, 1], (discipline, back))

    def test_a_customer_who_comes_back_stands_behind_the_others(self):
        # Customers 0 and 1 take turns of 10 each.
        answered = ask(
            ("create", 1, 3, 2), *[("set_service", 0, number, 10, 10) for number in (0, 1)],
            ("set_source", 0, 0, 1000, 1000), ("set_source", 1, 0, 1001, 1001),
            ("set_route", 0, 0, [1, 0, 0, 0]), ("set_route", 0, 1, [1, 0, 0, 0]),
            ("begin",), ("run_until", 1095), ("station_counts", 0), ("clock",),
        )
        self.assertEqual(answered[-2:], [(11, 9, 0, 1, 1, 2), (1095, 11, 3)])

    def test_a_full_station_takes_back_its_own_customer(self):
        # The one who waits is being served by the time the other one comes back: there are never more than 2.
        answered = ask(
            ("create", 1, 1, 2), ("set_station", 0, 1, 2, 0),
            *[("set_service", 0, number, 10, 10) for number in (0, 1)],
            ("set_source", 0, 0, 1000, 1000), ("set_source", 1, 0, 1001, 1001),
            *[("set_route", 0, number, [1, 0]) for number in (0, 1)],
            ("begin",), ("run_until", 1500), ("station_counts", 0),
        )
        self.assertEqual(answered[-1], (52, 50, 0, 1, 1, 2))


if __name__ == "__main__":
    unittest.main()
