"""station_areas, little and class_counts: what they sum up, answer and refuse."""

import unittest

from tests.calling import LARGEST, ask, ask_last

# One class comes at 10, 20, 30 and so on; its service takes 4.
STEADY = (("create", 1, 1, 1), ("set_service", 0, 0, 4, 4), ("set_source", 0, 0, 10, 10), ("begin",))
# One class comes at 2, 4, 6 and so on; its service takes 3 at station 0 and 2 at station 1.
LINE = (
    ("create", 7, 2, 1), ("set_service", 0, 0, 3, 3), ("set_service", 1, 0, 2, 2), ("set_source", 0, 0, 2, 2),
    ("set_route", 0, 0, [0, 1, 0]), ("begin",),
)
# Three classes come to station 0 at the same time, at 10, 20, 30 and so on.
TOGETHER = (
    ("create", 1, 1, 3), *[("set_source", number, 0, 10, 10) for number in range(3)],
    *[("set_service", 0, number, 4, 4) for number in range(3)], ("begin",),
)


def at_times(calls, times, look):
    """What the look answers after run_until to each of the times."""
    answered = ask(*calls, *[call for time in times for call in (("run_until", time), look)])
    return answered[len(calls) + 1::2]


class NoSuchPlace(unittest.TestCase):
    def test_without_a_run(self):
        for name in ("station_areas", "little", "class_counts"):
            self.assertEqual(ask_last(("create", 1, 1, 1), (name, 0)), -6)

    def test_the_run_is_asked_for_first(self):
        for name in ("station_areas", "little", "class_counts"):
            for place in (1, LARGEST):
                self.assertEqual(ask_last(("create", 1, 1, 1), (name, place)), -6)

    def test_no_such_station(self):
        for name in ("station_areas", "little"):
            for station_count in range(1, 5):
                calls = [("create", 1, station_count, 1), ("begin",)]
                for station in (station_count, 4, LARGEST):
                    self.assertEqual(ask_last(*calls, (name, station)), -2)
                self.assertEqual(ask_last(*calls, (name, station_count - 1)), (0, 0, 0))

    def test_no_such_class(self):
        for class_count in range(1, 4):
            calls = [("create", 1, 1, class_count), ("begin",)]
            for number in (class_count, 3, LARGEST):
                self.assertEqual(ask_last(*calls, ("class_counts", number)), -2)
            self.assertEqual(ask_last(*calls, ("class_counts", class_count - 1)), (0, 0, 0, 0, 0))


class StationAreas(unittest.TestCase):
    def test_ahead_of_the_first_event(self):
        answered = ask(*STEADY, ("station_areas", 0), ("run_until", 9), ("station_areas", 0))
        self.assertEqual(answered[-3:], [(0, 0, 0), 0, (0, 0, 9)])

    def test_they_grow_with_the_time_of_each_event(self):
        answered = ask(*LINE, *[call for _ in range(6) for call in (("step", 1), ("station_areas", 0))])
        self.assertEqual(answered[7::2], [(0, 0, 2), (2, 2, 4), (4, 3, 5), (5, 4, 6), (7, 5, 7), (9, 6, 8)])

    def test_they_grow_with_run_until_behind_the_last_event(self):
        self.assertEqual(
            at_times(STEADY, (10, 11, 13, 14, 15, 19, 23), ("station_areas", 0)),
            [(0, 0, 10), (1, 1, 11), (3, 3, 13), (4, 4, 14), (4, 4, 15), (4, 4, 19), (7, 7, 23)],
        )

    def test_run_until_at_the_present_time_adds_nothing(self):
        self.assertEqual(at_times(STEADY, (13, 13, 13), ("station_areas", 0)), [(3, 3, 13)] * 3)

    def test_a_step_behind_run_until_goes_on_from_its_time(self):
        answered = ask(*STEADY, ("run_until", 12), ("step", 1), ("station_areas", 0))
        self.assertEqual(answered[-1], (4, 4, 14))

    def test_a_step_without_events_adds_nothing(self):
        calls = (("create", 1, 1, 1), ("begin",), ("run_until", 50), ("step", 3), ("station_areas", 0))
        self.assertEqual(ask_last(*calls), (0, 0, 50))

    def test_several_events_at_one_time(self):
        looks = [call for _ in range(4) for call in (("step", 1), ("station_areas", 0))]
        answered = ask(*TOGETHER, *looks, ("run_until", 17), ("station_areas", 0))
        # The three arrivals are at 10, the first end of a service is at 14.
        self.assertEqual(answered[9::2], [(0, 0, 10), (0, 0, 10), (0, 0, 10), (12, 4, 14), (18, 7, 17)])

    def test_an_end_and_an_arrival_at_one_time(self):
        calls = (("create", 1, 1, 1), ("set_service", 0, 0, 5, 5), ("set_source", 0, 0, 5, 5), ("begin",))
        self.assertEqual(at_times(calls, (5, 10, 13), ("station_areas", 0)), [(0, 0, 5), (5, 5, 10), (8, 8, 13)])

    def test_the_second_area_is_that_of_all_busy_servers(self):
        calls = (
            ("create", 1, 1, 1), ("set_station", 0, 2, 0, 0), ("set_service", 0, 0, 100, 100),
            ("set_source", 0, 0, 1, 1), ("begin",),
        )
        # The customers are 1 in the second after 1, then 2, 3, 4 and so on.
        self.assertEqual(at_times(calls, (2, 3, 5), ("station_areas", 0)), [(1, 1, 2), (3, 3, 3), (10, 7, 5)])

    def test_lost_customers_take_no_time(self):
        calls = (
            ("create", 1, 1, 1), ("set_station", 0, 1, 1, 0), ("set_service", 0, 0, 100, 100),
            ("set_source", 0, 0, 1, 1), ("begin",),
        )
        self.assertEqual(at_times(calls, (2, 51), ("station_areas", 0)), [(1, 1, 2), (50, 50, 51)])

    def test_each_station_has_its_own(self):
        answered = ask(*LINE, ("run_until", 9), ("station_areas", 0), ("station_areas", 1))
        # At station 1 customer 0 is from 5 to 7, and customer 1 from 8 on.
        self.assertEqual(answered[-2:], [(11, 7, 9), (3, 3, 9)])

    def test_a_new_run_begins_with_none(self):
        answered = ask(*STEADY, ("run_until", 30), ("begin",), ("station_areas", 0), ("step", 2), ("station_areas", 0))
        self.assertEqual(answered[-4:], [1, (0, 0, 0), (14, 2), (4, 4, 14)])

    def test_too_many_events_leave_them(self):
        answered = ask(*STEADY, ("run_until", 13), ("run_until", 1000000), ("station_areas", 0))
        self.assertEqual(answered[-3:], [1, -28, (3, 3, 13)])

    def test_beyond_4294967295(self):
        # At 10000, 20000 and so on 3 customers come, and one of the others has been served.
        calls = [
            ("create", 1, 1, 3), *[("set_service", 0, number, 10000, 10000) for number in range(3)],
            *[("set_source", number, 0, 10000, 10000) for number in range(3)], ("begin",),
        ]
        answered = ask(*calls, *[("step", 499)] * 5, ("station_areas", 0), ("little", 0), ("clock",))
        time, executed, _ = answered[-1]
        self.assertEqual(executed, 2495)
        # 3 events at the first time and 4 at every later one: 2495 are those of 624 times.
        self.assertEqual(time, 6240000)
        area = sum((3 + 2 * (number - 1)) * 10000 for number in range(1, 624))
        self.assertGreater(area, 3800000000)
        self.assertEqual(answered[-3], (area, 6230000, 6240000))
        later = ask(*calls, *[("step", 500)] * 7, ("station_areas", 0))[-1]
        self.assertGreater(later[0], LARGEST)
        self.assertEqual(later[0], sum((3 + 2 * (number - 1)) * 10000 for number in range(1, later[2] // 10000)))


class Little(unittest.TestCase):
    def test_area_sojourns_and_present(self):
        self.assertEqual(
            at_times(LINE, (1, 2, 4, 5, 7, 8, 9), ("little", 0)),
            [(0, 0, 0), (0, 0, 0), (2, 0, 2), (4, 3, 1), (7, 3, 4), (9, 7, 2), (11, 7, 4)],
        )

    def test_at_the_second_station(self):
        self.assertEqual(
            at_times(LINE, (4, 5, 6, 7, 8, 9, 10), ("little", 1)),
            [(0, 0, 0), (0, 0, 0), (1, 0, 1), (2, 2, 0), (2, 2, 0), (3, 2, 1), (4, 4, 0)],
        )

    def test_those_who_wait_are_present_too(self):
        self.assertEqual(at_times(TOGETHER, (12, 14, 15, 18), ("little", 0)), [
            (6, 0, 6), (12, 4, 8), (14, 4, 10), (20, 12, 8),
        ])

    def test_one_who_comes_back_comes_anew(self):
        calls = (
            ("create", 1, 1, 1), ("set_service", 0, 0, 20, 20), ("set_source", 0, 0, 1000, 1000),
            ("set_route", 0, 0, [1, 0]), ("begin",),
        )
        self.assertEqual(at_times(calls, (1019, 1020, 1025, 1045), ("little", 0)), [
            (19, 0, 19), (20, 20, 0), (25, 20, 5), (45, 40, 5),
        ])

    def test_lost_customers_are_neither(self):
        calls = (
            ("create", 1, 1, 1), ("set_station", 0, 1, 1, 0), ("set_service", 0, 0, 10, 10),
            ("set_source", 0, 0, 4, 4), ("begin",),
        )
        # Customer 0 is there from 4 to 14, and customer 3 from 16 on.
        self.assertEqual(at_times(calls, (13, 14, 20), ("little", 0)), [(9, 0, 9), (10, 10, 0), (14, 10, 4)])


class ClassCounts(unittest.TestCase):
    def test_when_nobody_has_come_or_left(self):
        self.assertEqual(at_times(STEADY, (0, 9, 10, 13), ("class_counts", 0)), [
            (0, 0, 0, 0, 0), (0, 0, 0, 0, 0), (1, 0, 0, 0, 0), (1, 0, 0, 0, 0),
        ])

    def test_times_in_the_network(self):
        # Customer 0 is there from 2 to 7, 1 from 4 to 10, 2 from 6 to 13 and 3 from 8 to 16.
        self.assertEqual(at_times(LINE, (6, 7, 9, 10, 13, 15, 16), ("class_counts", 0)), [
            (3, 0, 0, 0, 0), (3, 1, 0, 5, 5), (4, 1, 0, 5, 5), (5, 2, 0, 11, 6), (6, 3, 0, 18, 7),
            (7, 3, 0, 18, 7), (8, 4, 0, 26, 8),
        ])

    def test_the_greatest_time_stays_when_shorter_ones_follow(self):
        calls = (
            ("create", 1, 1, 2), ("set_service", 0, 1, 9, 9), ("set_source", 0, 0, 10, 10),
            ("set_source", 1, 0, 18, 18), ("begin",),
        )
        # Class 1 has the server from 18 to 27, 36 to 45 and 54 to 63: class 0 waits at 20, 40 and 60.
        self.assertEqual(at_times(calls, (19, 29, 79), ("class_counts", 0)), [
            (1, 1, 0, 1, 1), (2, 2, 0, 9, 8), (7, 7, 0, 22, 8),
        ])

    def test_classes_that_come_together(self):
        # They are served one by one: from 10 to 14, 18 and 22, and then from 22 to 26, 30 and 34.
        answered = ask(*TOGETHER, ("run_until", 35), *[("class_counts", number) for number in range(3)])
        self.assertEqual(answered[-3:], [(3, 2, 0, 10, 6), (3, 2, 0, 18, 10), (3, 2, 0, 26, 14)])

    def test_those_lost_at_the_first_station(self):
        calls = (
            ("create", 1, 1, 1), ("set_station", 0, 1, 1, 0), ("set_service", 0, 0, 5, 5),
            ("set_source", 0, 0, 2, 2), ("begin",),
        )
        self.assertEqual(at_times(calls, (2, 4, 6, 7, 8), ("class_counts", 0)), [
            (1, 0, 0, 0, 0), (2, 0, 1, 0, 0), (3, 0, 2, 0, 0), (3, 1, 2, 5, 5), (4, 1, 2, 5, 5),
        ])

    def test_those_lost_on_their_way_have_not_left(self):
        calls = (
            ("create", 1, 2, 1), ("set_station", 1, 1, 1, 0), ("set_service", 1, 0, 25, 25),
            ("set_source", 0, 0, 10, 10), ("set_route", 0, 0, [0, 1, 0]), ("begin",),
        )
        # Customer 0 is at station 1 from 11 to 36; 1 and 2 are lost there at 21 and 31.
        self.assertEqual(at_times(calls, (20, 21, 31, 36, 41), ("class_counts", 0)), [
            (2, 0, 0, 0, 0), (2, 0, 1, 0, 0), (3, 0, 2, 0, 0), (3, 1, 2, 26, 26), (4, 1, 2, 26, 26),
        ])

    def test_those_who_go_on_have_not_left(self):
        answered = ask(*LINE, ("run_until", 5), ("class_counts", 0), ("station_counts", 0))
        self.assertEqual(answered[-2:], [(2, 0, 0, 0, 0), (2, 1, 0, 1, 0, 2)])

    def test_each_class_is_counted_alone(self):
        answered = ask(
            ("create", 1, 1, 3), ("set_station", 0, 1, 1, 0), ("set_service", 0, 2, 30, 30),
            ("set_source", 2, 0, 10, 10), ("set_source", 1, 0, 15, 15), ("begin",), ("run_until", 44),
            *[("class_counts", number) for number in range(3)],
        )
        # Class 2 has the one server from 10 to 40; at 40 its next customer comes ahead of the end of this service.
        self.assertEqual(answered[-3:], [(0, 0, 0, 0, 0), (2, 0, 2, 0, 0), (4, 1, 2, 30, 30)])


if __name__ == "__main__":
    unittest.main()
