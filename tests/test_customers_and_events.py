"""serving, queue, job_info and next_events: who is where, and what is planned."""

import unittest

from tests import reference
from tests.calling import LARGEST, ask, ask_last

FIRST_COME, LAST_COME, SMALLEST_CLASS, SHORTEST_SERVICE = range(4)

# One class comes at 10, 20, 30 and so on; its service takes 4.
STEADY = (("create", 1, 1, 1), ("set_service", 0, 0, 4, 4), ("set_source", 0, 0, 10, 10), ("begin",))


def five_customers(discipline):
    """The classes 2, 1, 2, 0, 1 come one after another; there is no room for others until 1100, when 0 is served."""
    return (
        ("create", 1, 1, 3), ("set_station", 0, 1, 5, discipline),
        ("set_service", 0, 0, 3000, 3000), ("set_service", 0, 1, 2000, 2000), ("set_service", 0, 2, 1000, 1000),
        ("set_source", 0, 0, 220, 220), ("set_source", 1, 0, 150, 150), ("set_source", 2, 0, 100, 100),
        ("begin",), ("run_until", 1099),
    )


class NoSuchPlace(unittest.TestCase):
    def test_without_a_run(self):
        for name in ("serving", "queue", "job_info", "next_events"):
            self.assertEqual(ask_last(("create", 1, 1, 1), (name, 0)), -6)

    def test_the_run_is_asked_for_first(self):
        for name in ("serving", "queue", "job_info"):
            for place in (1, LARGEST):
                self.assertEqual(ask_last(("create", 1, 1, 1), (name, place)), -6)

    def test_no_such_station(self):
        for name in ("serving", "queue"):
            for station_count in range(1, 5):
                calls = [("create", 1, station_count, 1), ("begin",)]
                for station in (station_count, 4, LARGEST):
                    self.assertEqual(ask_last(*calls, (name, station)), -2)
                self.assertEqual(ask_last(*calls, (name, station_count - 1)), 0)


class ServingAndQueue(unittest.TestCase):
    def looks(self, *calls):
        return ask(*calls, ("serving", 0), ("queue", 0))[-2:]

    def test_a_station_without_customers(self):
        self.assertEqual(self.looks(*STEADY), [0, 0])
        self.assertEqual(self.looks(*STEADY, ("run_until", 15)), [0, 0])

    def test_all_are_served_and_nobody_waits(self):
        self.assertEqual(self.looks(*STEADY, ("run_until", 13)), [(1, 0), 0])
        self.assertEqual(self.looks(*STEADY, ("run_until", 33)), [(1, 2), 0])

    def test_before_anyone_is_chosen(self):
        for discipline in range(4):
            self.assertEqual(self.looks(*five_customers(discipline)), [(1, 0), (4, 1, 2, 3, 4)])

    def test_who_came_first(self):
        self.assertEqual(self.looks(*five_customers(FIRST_COME), ("step", 1)), [(1, 1), (3, 2, 3, 4)])

    def test_who_came_last(self):
        self.assertEqual(self.looks(*five_customers(LAST_COME), ("step", 1)), [(1, 4), (3, 1, 2, 3)])

    def test_the_smallest_class(self):
        self.assertEqual(self.looks(*five_customers(SMALLEST_CLASS), ("step", 1)), [(1, 3), (3, 1, 2, 4)])

    def test_the_shortest_service(self):
        self.assertEqual(self.looks(*five_customers(SHORTEST_SERVICE), ("step", 1)), [(1, 2), (3, 1, 3, 4)])

    def test_those_who_wait_stand_as_they_came_whoever_is_chosen(self):
        for discipline in range(4):
            calls = (
                ("create", 3, 1, 3), ("set_station", 0, 2, 0, discipline),
                *[("set_service", 0, number, 5, 60) for number in range(3)],
                *[("set_source", number, 0, 3, 9) for number in range(3)], ("begin",),
            )
            for look in ask(*calls, *[call for _ in range(60) for call in (("step", 3), ("queue", 0))])[9::2]:
                waiting = [] if look == 0 else list(look[1:])
                self.assertEqual(waiting, sorted(waiting))

    def test_those_who_are_served_stand_as_their_services_began(self):
        calls = (
            ("create", 1, 1, 3), ("set_station", 0, 3, 0, LAST_COME),
            ("set_service", 0, 0, 500, 500), ("set_service", 0, 1, 40, 40), ("set_service", 0, 2, 70, 70),
            ("set_source", 0, 0, 10, 10), ("set_source", 1, 0, 11, 11), ("set_source", 2, 0, 12, 12), ("begin",),
        )
        # Class 1 is served till 51; whoever came last is chosen then, and goes to the end of the row.
        answered = ask(
            *calls, ("run_until", 12), ("serving", 0), ("run_until", 50), ("queue", 0),
            ("run_until", 51), ("serving", 0), ("queue", 0),
        )
        self.assertEqual(answered[-6], (3, 0, 1, 2))
        self.assertEqual(answered[-4], (10, *range(3, 13)))
        self.assertEqual(answered[-2:], [(3, 0, 2, 12), (9, *range(3, 12))])

    def test_one_who_began_earlier_stands_ahead_though_the_number_is_greater(self):
        calls = (
            ("create", 1, 1, 2), ("set_station", 0, 2, 5, SMALLEST_CLASS),
            *[("set_service", 0, number, 1000, 1000) for number in (0, 1)],
            ("set_source", 0, 0, 350, 350), ("set_source", 1, 0, 100, 100), ("begin",),
        )
        # Customer 3 alone is of class 0: it is chosen at 1100, and customer 2 at 1200.
        answered = ask(*calls, *[
            call for time in (1099, 1100, 1200)
            for call in (("run_until", time), ("serving", 0), ("queue", 0))
        ])
        self.assertEqual(answered[-8:-6], [(2, 0, 1), (3, 2, 3, 4)])
        self.assertEqual(answered[-5:-3], [(2, 1, 3), (3, 2, 4, 13)])
        self.assertEqual(answered[-2:], [(2, 3, 2), (3, 4, 13, 14)])

    def test_one_who_comes_back_goes_to_the_end(self):
        calls = (
            ("create", 1, 1, 1), ("set_service", 0, 0, 35, 35), ("set_source", 0, 0, 10, 10),
            ("set_route", 0, 0, [1, 0]), ("begin",),
        )
        answered = ask(*calls, *[
            call for time in (44, 45) for call in (("run_until", time), ("serving", 0), ("queue", 0))
        ])
        self.assertEqual(answered[-5:-3], [(1, 0), (3, 1, 2, 3)])
        self.assertEqual(answered[-2:], [(1, 1), (3, 2, 3, 0)])

    def test_customers_who_are_lost_are_nowhere(self):
        calls = (
            ("create", 1, 1, 1), ("set_station", 0, 1, 2, 0), ("set_service", 0, 0, 1000, 1000),
            ("set_source", 0, 0, 10, 10), ("begin",), ("run_until", 90),
        )
        self.assertEqual(self.looks(*calls), [(1, 0), (1, 1)])

    def test_each_station_has_its_own(self):
        answered = ask(
            ("create", 1, 2, 1), ("set_service", 0, 0, 10, 10), ("set_service", 1, 0, 25, 25),
            ("set_source", 0, 0, 10, 10), ("set_route", 0, 0, [0, 1, 0]), ("begin",), ("run_until", 42),
            *[(name, station) for station in (0, 1) for name in ("serving", "queue")],
        )
        self.assertEqual(answered[-4:], [(1, 3), 0, (1, 0), (2, 1, 2)])

    def test_a_long_queue(self):
        calls = [("create", 1, 1, 1), ("set_service", 0, 0, 10000, 10000), ("set_source", 0, 0, 1, 1), ("begin",)]
        answered = ask(*calls, *[("step", 500)] * 4, ("serving", 0), ("queue", 0))
        self.assertEqual(answered[-2:], [(1, 0), (1999, *range(1, 2000))])


class JobInfo(unittest.TestCase):
    def test_one_who_is_served(self):
        self.assertEqual(ask_last(*STEADY, ("run_until", 10), ("job_info", 0)), (0, 0, 10, 10, 0, 4, 1))
        self.assertEqual(ask_last(*STEADY, ("run_until", 43), ("job_info", 3)), (0, 0, 40, 40, 0, 4, 1))

    def test_one_who_waits(self):
        calls = five_customers(FIRST_COME)
        self.assertEqual(ask_last(*calls, ("job_info", 0)), (2, 0, 100, 100, 0, 1000, 1))
        self.assertEqual(ask_last(*calls, ("job_info", 1)), (1, 0, 150, 150, 0, 2000, 0))
        self.assertEqual(ask_last(*calls, ("job_info", 3)), (0, 0, 220, 220, 0, 3000, 0))
        self.assertEqual(ask_last(*calls, ("job_info", 4)), (1, 0, 300, 300, 0, 2000, 0))

    def test_one_who_is_served_behind_waiting(self):
        calls = five_customers(SMALLEST_CLASS)
        self.assertEqual(ask_last(*calls, ("step", 1), ("job_info", 3)), (0, 0, 220, 220, 0, 3000, 1))

    def test_one_who_has_left(self):
        self.assertEqual(ask_last(*STEADY, ("run_until", 14), ("job_info", 0)), -2)

    def test_one_who_was_lost(self):
        for customer in (5, 6, 20):
            self.assertEqual(ask_last(*five_customers(FIRST_COME), ("job_info", customer)), -2)

    def test_one_who_was_lost_on_the_way(self):
        calls = (
            ("create", 1, 2, 1), ("set_station", 1, 1, 1, 0), ("set_service", 1, 0, 25, 25),
            ("set_source", 0, 0, 10, 10), ("set_route", 0, 0, [0, 1, 0]), ("begin",), ("run_until", 20),
        )
        answered = ask(*calls, ("job_info", 0), ("job_info", 1), ("run_until", 21), ("job_info", 0), ("job_info", 1))
        first = (0, 1, 10, 11, 1, 25, 1)
        self.assertEqual(answered[-5:], [first, (0, 0, 20, 20, 0, 1, 1), 1, first, -2])

    def test_one_who_has_not_come_yet(self):
        for customer in (0, 1, LARGEST):
            self.assertEqual(ask_last(*STEADY, ("job_info", customer)), -2)
            self.assertEqual(ask_last(*STEADY, ("run_until", 9), ("job_info", customer)), -2)
        self.assertEqual(ask_last(*STEADY, ("run_until", 11), ("job_info", 1)), -2)
        self.assertEqual(ask_last(*STEADY, ("run_until", 11), ("job_info", LARGEST)), -2)

    def test_one_who_comes_back(self):
        calls = (
            ("create", 6, 1, 1), ("set_service", 0, 0, 20, 400), ("set_source", 0, 0, 8000, 8000),
            ("set_route", 0, 0, [1, 0]), ("begin",),
        )
        answered = ask(*calls, *[call for _ in range(6) for call in (("step", 1), ("job_info", 0))])
        entered = 8000
        for visits, answer in enumerate(answered[6::2]):
            service = reference.draw(20, 400, reference.hashed(6, 2, 0, visits))
            self.assertEqual(answer, (0, 0, 8000, entered, visits, service, 1))
            entered += service

    def test_one_who_goes_on_to_another_station(self):
        calls = (
            ("create", 1, 4, 2), ("set_source", 1, 2, 10, 10), ("set_service", 2, 1, 3, 3), ("set_service", 3, 1, 6, 6),
            ("set_route", 2, 1, [0, 0, 0, 1, 0]), ("set_route", 3, 1, [0, 0, 1, 0, 0]), ("begin",),
        )
        answered = ask(*calls, *[call for time in (12, 13, 19) for call in (("run_until", time), ("job_info", 0))])
        self.assertEqual(answered[8::2], [(1, 2, 10, 10, 0, 3, 1), (1, 3, 10, 13, 1, 6, 1), (1, 2, 10, 19, 2, 3, 1)])

    def test_every_customer_in_a_long_queue(self):
        calls = [("create", 1, 1, 1), ("set_service", 0, 0, 10000, 10000), ("set_source", 0, 0, 1, 1), ("begin",)]
        answered = ask(*calls, ("step", 500), *[("job_info", customer) for customer in range(502)])
        expected = [(0, 0, number + 1, number + 1, 0, 10000, int(number == 0)) for number in range(500)]
        self.assertEqual(answered[-502:], [*expected, -2, -2])


class NextEvents(unittest.TestCase):
    # Class 0 comes to station 1 at 10, 20 and so on and class 1 at 20, 40 and so on; there are two servers.
    CALLS = (
        ("create", 1, 2, 2), ("set_station", 1, 2, 0, 0), ("set_service", 1, 0, 10, 10), ("set_service", 1, 1, 30, 30),
        ("set_source", 0, 1, 10, 10), ("set_source", 1, 1, 20, 20), ("begin",),
    )

    def test_ahead_of_the_first_event(self):
        self.assertEqual(ask_last(*self.CALLS, ("next_events", 5)), (2, 10, 1, 0, 0, 20, 1, 1, 0))

    def test_no_events_are_planned(self):
        for count in (0, 1, LARGEST):
            answered = ask(
                ("create", 1, 2, 2), ("begin",), ("next_events", count), ("run_until", 7), ("next_events", count),
            )
            self.assertEqual(answered[2:], [0, 0, 0])

    def test_no_more_than_are_asked_for_and_no_more_than_there_are(self):
        events = [(20, 1, 1, 0), (20, 1, 0, 0), (20, 0, 1, 0)]
        for count in (0, 1, 2, 3, 4, 500, 501, LARGEST):
            told = [number for event in events[:count] for number in event]
            answer = ask_last(*self.CALLS, ("step", 1), ("next_events", count))
            self.assertEqual(answer, (min(count, 3), *told) if count > 0 else 0, count)

    def test_at_one_time_they_stand_as_they_were_planned(self):
        answered = ask(*self.CALLS, *[call for _ in range(5) for call in (("step", 1), ("next_events", 9))])
        self.assertEqual(answered[8::2], [
            (3, 20, 1, 1, 0, 20, 1, 0, 0, 20, 0, 1, 0),
            (4, 20, 1, 0, 0, 20, 0, 1, 0, 40, 1, 1, 0, 50, 0, 1, 1),
            (4, 20, 0, 1, 0, 30, 1, 0, 0, 40, 1, 1, 0, 50, 0, 1, 1),
            (4, 30, 1, 0, 0, 30, 0, 1, 2, 40, 1, 1, 0, 50, 0, 1, 1),
            (4, 30, 0, 1, 2, 40, 1, 1, 0, 40, 1, 0, 0, 50, 0, 1, 1),
        ])

    def test_those_who_wait_have_no_event(self):
        calls = (
            ("create", 1, 1, 1), ("set_service", 0, 0, 1000, 1000), ("set_source", 0, 0, 10, 10), ("begin",),
            ("run_until", 55), ("next_events", LARGEST),
        )
        self.assertEqual(ask_last(*calls), (2, 60, 1, 0, 0, 1010, 0, 0, 0))

    def test_as_many_as_can_be_planned(self):
        calls = [("create", 1, 4, 3)]
        for station in range(4):
            calls += [("set_station", station, 8, 0, 0)]
            calls += [("set_service", station, number, 9000, 9000) for number in range(3)]
        # Each class goes to a station of its own; the last station has no customers.
        calls += [("set_source", number, number, 7, 7) for number in range(3)]
        answer = ask_last(*calls, ("begin",), ("run_until", 100), ("next_events", LARGEST))
        self.assertEqual(answer[0], 3 + 8 * 3)
        events = [answer[place:place + 4] for place in range(1, len(answer), 4)]
        self.assertEqual(events[:3], [(105, 1, number, 0) for number in range(3)])
        ends = [(9007 + 7 * turn, 0, station, 3 * turn + station) for turn in range(8) for station in range(3)]
        self.assertEqual(events[3:], ends)

    def test_they_are_the_events_that_come(self):
        answered = ask(
            ("create", 9, 1, 2), ("set_station", 0, 2, 0, 0), ("set_service", 0, 0, 1, 90), ("set_service", 0, 1, 5, 9),
            ("set_source", 0, 0, 1, 60), ("set_source", 1, 0, 9, 30), ("begin",),
            *[call for _ in range(100) for call in (("next_events", 1), ("step", 1))],
        )
        for event, stepped in zip(answered[7::2], answered[8::2]):
            self.assertEqual((event[0], event[1]), (1, stepped[0]))


if __name__ == "__main__":
    unittest.main()
