"""begin, step, run_until, clock and station_counts: what they do to a run, answer and refuse."""

import unittest

from tests.calling import LARGEST, ask, ask_last

# The weights with which each class goes on from station 0 to a station of its own.
APART = tuple(("set_route", 0, number, [0] * (number + 1) + [1] + [0] * (3 - number)) for number in range(3))
# One class comes at 10, 20, 30 and so on; its service takes 4.
STEADY = (("create", 1, 1, 1), ("set_service", 0, 0, 4, 4), ("set_source", 0, 0, 10, 10))
# One class comes at 1, 2, 3 and so on; until 10000 no service ends.
CROWDED = (("create", 1, 1, 1), ("set_service", 0, 0, 10000, 10000), ("set_source", 0, 0, 1, 1))


class Begin(unittest.TestCase):
    def test_one_event_is_planned_for_each_class_with_arrivals(self):
        calls = [("create", 1, 1, 3), ("begin",)]
        self.assertEqual(ask(*calls), [0, 0])
        for number in (2, 0, 1):
            calls += [("set_source", number, 0, 5, 5), ("begin",)]
        self.assertEqual(ask(*calls)[1::2], [0, 1, 2, 3])

    def test_a_run_begins_at_0_with_nobody_there(self):
        answered = ask(*STEADY, ("begin",), ("clock",), ("station_counts", 0))
        self.assertEqual(answered[-3:], [1, (0, 0, 1), (0, 0, 0, 0, 0, 0)])

    def test_a_former_run_is_replaced(self):
        first = [("step", 3), ("clock",), ("station_counts", 0), ("run_until", 77), ("clock",)]
        answered = ask(*STEADY, ("begin",), *first, ("begin",), *first)
        self.assertEqual(answered[4:9], answered[10:])
        self.assertEqual(answered[9], 1)

    def test_the_checkpoints_remain(self):
        answered = ask(*STEADY, ("begin",), ("step", 3), ("checkpoint", 2), ("begin",), ("clock",), ("restore", 2))
        self.assertEqual(answered[-3:], [1, (0, 0, 1), 20])

    def test_arrivals_at_the_same_time_are_planned_by_class(self):
        # There is room for one customer alone: the class whose arrival was planned first.
        for first in range(3):
            sources = [("set_source", number, 0, 9, 9) for number in range(first, 3)]
            answered = ask(
                ("create", 1, 4, 3), ("set_station", 0, 1, 1, 0), *reversed(sources), *APART,
                ("begin",), ("run_until", 10), *[("station_counts", place) for place in (1, 2, 3)],
            )
            self.assertEqual([answer[0] for answer in answered[-3:]], [int(place == first) for place in range(3)])


class Step(unittest.TestCase):
    def test_without_a_run(self):
        self.assertEqual(ask_last(("create", 1, 1, 1), ("step", 1)), -6)

    def test_the_run_is_asked_for_first(self):
        for count in (0, 501, LARGEST):
            self.assertEqual(ask_last(("create", 1, 1, 1), ("step", count)), -6)

    def test_least_and_greatest_count(self):
        self.assertEqual(ask(*CROWDED, ("begin",), ("step", 1), ("step", 500))[-2:], [(1, 1), (501, 500)])

    def test_counts_outside_their_range(self):
        for count in (0, 501, LARGEST):
            self.assertEqual(ask(*CROWDED, ("begin",), ("step", count), ("clock",))[-2:], [-22, (0, 0, 1)], count)

    def test_the_time_becomes_that_of_the_last_event(self):
        answered = ask(*STEADY, ("begin",), *[("step", count) for count in (1, 1, 1, 3, 10)])
        self.assertEqual(answered[-5:], [(10, 1), (14, 1), (20, 1), (34, 3), (84, 10)])

    def test_no_more_events_than_there_are(self):
        for count in (1, 500):
            answered = ask(
                ("create", 1, 1, 1), ("begin",), ("step", count), ("run_until", 33), ("step", count), ("clock",),
            )
            self.assertEqual(answered[2:], [(0, 0), 0, (33, 0), (33, 0, 0)])

    def test_beyond_the_greatest_time_of_run_until(self):
        slow = (("create", 1, 1, 1), ("set_source", 0, 0, 10000, 10000), ("begin",))
        # There are an arrival and an end of a service every 10000.
        answered = ask(*slow, ("step", 500), ("run_until", 1000000), ("run_until", 2500001), ("step", 1), ("clock",))
        self.assertEqual(answered[3:], [(2500001, 500), -22, -22, (2510000, 1), (2510000, 501, 2)])


class RunUntil(unittest.TestCase):
    def test_without_a_run(self):
        self.assertEqual(ask_last(("create", 1, 1, 1), ("run_until", 0)), -6)

    def test_the_run_is_asked_for_first(self):
        for time in (1000001, LARGEST):
            self.assertEqual(ask_last(("create", 1, 1, 1), ("run_until", time)), -6)

    def test_events_at_this_very_time_are_executed(self):
        answered = ask(*STEADY, ("begin",), *[("run_until", time) for time in (9, 10, 13, 14, 15, 34)], ("clock",))
        self.assertEqual(answered[-7:], [0, 1, 0, 1, 0, 4, (34, 6, 1)])

    def test_the_time_becomes_the_given_one(self):
        answered = ask(*STEADY, ("begin",), ("run_until", 3), ("clock",), ("run_until", 19), ("clock",), ("step", 1))
        self.assertEqual(answered[-5:], [0, (3, 0, 1), 2, (19, 2, 1), (20, 1)])

    def test_at_the_present_time(self):
        answered = ask(*STEADY, ("begin",), ("run_until", 0), ("step", 1), ("run_until", 10), ("clock",))
        self.assertEqual(answered[-4:], [0, (10, 1), 0, (10, 1, 2)])

    def test_what_is_left_at_the_present_time_is_executed(self):
        answered = ask(
            ("create", 1, 1, 3), *[("set_source", number, 0, 10, 10) for number in range(3)],
            ("begin",), ("step", 1), ("run_until", 10), ("run_until", 10), ("station_counts", 0),
        )
        self.assertEqual(answered[-4:], [(10, 1), 2, 0, (3, 0, 0, 1, 2, 3)])

    def test_times_before_the_present_one(self):
        calls = (*STEADY, ("begin",), ("step", 3))
        for time in (0, 10, 19):
            self.assertEqual(ask(*calls, ("run_until", time), ("clock",))[-2:], [-22, (20, 3, 2)])
        self.assertEqual(ask(*calls, ("run_until", 25), ("run_until", 24))[-2:], [1, -22])

    def test_the_greatest_time(self):
        slow = (("create", 1, 1, 1), ("set_source", 0, 0, 10000, 10000), ("begin",))
        answered = ask(*slow, ("run_until", 1000000), ("clock",), ("run_until", 1000000), ("run_until", 1000001))
        self.assertEqual(answered[3:], [199, (1000000, 199, 2), 0, -22])
        self.assertEqual(ask_last(("create", 1, 1, 1), ("begin",), ("run_until", 1000000)), 0)

    def test_times_beyond_the_greatest_one(self):
        for time in (1000001, LARGEST):
            answered = ask(("create", 1, 1, 1), ("begin",), ("run_until", time), ("clock",))
            self.assertEqual(answered[2:], [-22, (0, 0, 0)])

    def test_exactly_500_events_and_501(self):
        answered = ask(*CROWDED, ("begin",), ("run_until", 501), ("clock",), ("run_until", 500), ("clock",))
        self.assertEqual(answered[-4:], [-28, (0, 0, 1), 500, (500, 500, 2)])
        answered = ask(*CROWDED, ("begin",), ("step", 7), ("run_until", 508), ("clock",), ("run_until", 507))
        self.assertEqual(answered[-3:], [-28, (7, 7, 2), 500])

    def test_500_events_of_which_several_come_at_the_last_time(self):
        # At each time from 1 on there are two arrivals.
        two = (("create", 1, 1, 2), *[("set_service", 0, number, 10000, 10000) for number in (0, 1)],
               *[("set_source", number, 0, 1, 1) for number in (0, 1)], ("begin",))
        self.assertEqual(ask(*two, ("run_until", 250), ("clock",))[-2:], [500, (250, 500, 3)])
        self.assertEqual(ask(*two, ("step", 1), ("run_until", 251))[-2:], [(1, 1), -28])

    def test_a_time_out_of_range_is_told_ahead_of_too_many_events(self):
        self.assertEqual(ask_last(*CROWDED, ("begin",), ("run_until", 1000001)), -22)
        self.assertEqual(ask_last(*CROWDED, ("begin",), ("run_until", 1000000)), -28)


class Clock(unittest.TestCase):
    def test_without_a_run(self):
        self.assertEqual(ask_last(("create", 1, 1, 1), ("clock",)), -6)

    def test_time_executed_and_planned(self):
        answered = ask(
            ("create", 1, 1, 2), ("set_station", 0, 3, 0, 0),
            ("set_service", 0, 0, 50, 50), ("set_service", 0, 1, 3, 3),
            ("set_source", 0, 0, 10, 10), ("set_source", 1, 0, 25, 25),
            ("begin",), ("clock",), ("step", 1), ("clock",), ("step", 2), ("clock",), ("run_until", 40), ("clock",),
        )
        self.assertEqual(answered[7::2], [(0, 0, 2), (10, 1, 3), (25, 3, 5), (40, 6, 5)])

    def test_executed_events_are_counted_from_the_beginning_of_the_run(self):
        answered = ask(
            *STEADY, ("begin",), ("step", 4), ("run_until", 40), ("clock",), ("begin",), ("step", 2), ("clock",),
        )
        self.assertEqual([answered[6], answered[9]], [(40, 7, 2), (14, 2, 1)])


class StationCounts(unittest.TestCase):
    def test_without_a_run(self):
        self.assertEqual(ask_last(("create", 1, 1, 1), ("station_counts", 0)), -6)

    def test_the_run_is_asked_for_first(self):
        self.assertEqual(ask_last(("create", 1, 1, 1), ("station_counts", 1)), -6)

    def test_no_such_station(self):
        for station_count in range(1, 5):
            calls = [("create", 1, station_count, 1), ("begin",)]
            for station in (station_count, 4, LARGEST):
                self.assertEqual(ask_last(*calls, ("station_counts", station)), -2)
            self.assertEqual(ask_last(*calls, ("station_counts", station_count - 1)), (0, 0, 0, 0, 0, 0))

    def test_all_six_numbers(self):
        # Customers come at 2, 4, 6 ...; two servers take 7 each, and one customer can wait.
        answered = ask(
            ("create", 1, 1, 1), ("set_station", 0, 2, 3, 0), ("set_service", 0, 0, 7, 7), ("set_source", 0, 0, 2, 2),
            ("begin",),
            *[call for time in (1, 3, 5, 7, 8, 9, 10, 11) for call in (("run_until", time), ("station_counts", 0))],
        )
        self.assertEqual(answered[6::2], [
            (0, 0, 0, 0, 0, 0), (1, 0, 0, 1, 0, 1), (2, 0, 0, 2, 0, 2), (3, 0, 0, 2, 1, 3),
            (3, 0, 1, 2, 1, 3), (3, 1, 1, 2, 0, 3), (4, 1, 1, 2, 1, 3), (4, 2, 1, 2, 0, 3),
        ])

    def test_the_greatest_number_stays_when_the_station_empties(self):
        answered = ask(
            ("create", 1, 1, 3), *[("set_source", number, 0, 100, 100) for number in range(3)],
            ("begin",), ("run_until", 103), ("station_counts", 0), ("run_until", 150), ("station_counts", 0),
        )
        self.assertEqual(answered[-3:], [(3, 3, 0, 0, 0, 3), 0, (3, 3, 0, 0, 0, 3)])

    def test_a_customer_who_moves_on_to_a_full_station_is_lost_there(self):
        answered = ask(
            ("create", 1, 2, 1), ("set_station", 1, 1, 1, 0), ("set_service", 1, 0, 10000, 10000),
            ("set_source", 0, 0, 10, 10), ("set_route", 0, 0, [0, 1, 0]),
            ("begin",), ("run_until", 55), ("station_counts", 0), ("station_counts", 1),
        )
        self.assertEqual(answered[-2:], [(5, 5, 0, 0, 0, 1), (1, 0, 4, 1, 0, 1)])


class SameTime(unittest.TestCase):
    def test_an_arrival_planned_ahead_of_the_end_of_a_service_comes_first(self):
        # At 2 the arrival at 4 is planned, then the end of the service at 4: at 4 there is no room yet.
        answered = ask(
            ("create", 1, 1, 1), ("set_station", 0, 1, 1, 0), ("set_service", 0, 0, 2, 2), ("set_source", 0, 0, 2, 2),
            ("begin",), ("step", 2), ("station_counts", 0), ("step", 1), ("station_counts", 0),
        )
        self.assertEqual(answered[-4:], [(4, 2), (1, 0, 1, 1, 0, 1), (4, 1), (1, 1, 1, 0, 0, 1)])

    def test_the_end_of_a_service_planned_ahead_of_an_arrival_comes_first(self):
        # At 2 the end of the service at 6 is planned, and at 4 the arrival at 6: there is room for it.
        answered = ask(
            ("create", 1, 1, 1), ("set_station", 0, 1, 1, 0), ("set_service", 0, 0, 4, 4), ("set_source", 0, 0, 2, 2),
            ("begin",), ("step", 3), ("station_counts", 0), ("step", 1), ("station_counts", 0),
        )
        self.assertEqual(answered[-4:], [(6, 3), (1, 1, 1, 0, 0, 1), (6, 1), (2, 1, 1, 1, 0, 1)])

    def test_order_numbers_are_compared_as_numbers(self):
        answered = ask(
            ("create", 1, 4, 1), ("set_station", 0, 8, 0, 0), ("set_service", 0, 0, 9, 9), ("set_source", 0, 0, 1, 1),
            ("begin",), ("step", 9), ("clock",), ("station_counts", 0), ("step", 1), ("station_counts", 0),
        )
        # At 10 there are an end, planned as number 2, and an arrival, planned as number 17.
        self.assertEqual(answered[-4:], [(9, 9, 9), (9, 0, 0, 8, 1, 9), (10, 1), (9, 1, 0, 8, 0, 9)])


if __name__ == "__main__":
    unittest.main()
