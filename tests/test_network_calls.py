"""create, set_station, set_service, set_source and set_route: what they take, change and refuse."""

import unittest

from tests import reference
from tests.calling import LARGEST, NUMBERS, ask, ask_last
from waitworks.simulator import answers

# One class comes at 10, 20, 30 and so on, and its service takes 4.
STEADY = (
    ("create", 1, 2, 2),
    ("set_service", 0, 0, 4, 4),
    ("set_source", 0, 0, 10, 10),
)


class BeforeCreate(unittest.TestCase):
    CALLS = [
        ("set_station", 0, 1, 0, 0),
        ("set_service", 0, 0, 1, 1),
        ("set_source", 0, 0, 1, 1),
        ("set_route", 0, 0, [0, 0]),
        ("begin",),
        ("step", 1),
        ("run_until", 1),
        ("checkpoint", 0),
        ("restore", 0),
        ("clock",),
        ("station_counts", 0),
        ("station_areas", 0),
        ("little", 0),
        ("class_counts", 0),
        ("serving", 0),
        ("queue", 0),
        ("job_info", 0),
        ("next_events", 0),
        ("compare", 0),
        ("draw", 1, 2, [3]),
        ("digest",),
        ("summary",),
    ]

    def test_no_call_is_left_out(self):
        self.assertEqual([NUMBERS[call[0]] for call in self.CALLS], list(range(1, 23)))

    def test_every_other_call_says_that_there_is_no_instance(self):
        self.assertEqual(ask(*self.CALLS), [-11] * len(self.CALLS))

    def test_this_is_said_ahead_of_every_other_error(self):
        for name, *arguments in self.CALLS:
            wrong = [[LARGEST] if isinstance(argument, list) else LARGEST for argument in arguments]
            self.assertEqual(ask((name, *wrong)), [-11], name)
        self.assertEqual(ask(("draw", 2, 1, [])), [-11])

    def test_a_create_that_fails_makes_no_instance(self):
        for call in self.CALLS:
            self.assertEqual(ask(("create", 1, 0, 1), call), [-22, -11])
            self.assertEqual(ask(("create", 1, 1, 0), call), [-22, -11])

    def test_no_instance_is_kept_from_one_list_to_the_next(self):
        self.assertEqual(ask(("create", 1, 1, 1), ("begin",)), [0, 0])
        self.assertEqual(ask(("begin",)), [-11])


class ListsOfNumbers(unittest.TestCase):
    def test_answers_stand_behind_their_number(self):
        calls = [10, 0, 7, 1, 1, 10, 3, 0, 0, 2, 2, 4, 0, 0, 2, 0, 9, 5, 6, 1, 11, 0]
        expected = [1, -11, 1, 0, 1, -6, 1, 0, 1, 9, 1, 1, 2, 2, 1, 6, 1, 0, 0, 1, 0, 1]
        self.assertEqual(answers(calls), expected)

    def test_rows_of_every_length_are_read_to_their_end(self):
        for length in range(17):
            expected = [0, 0 if length == 3 else -22, 0]
            self.assertEqual(ask(("create", 1, 2, 1), ("set_route", 0, 0, [0] * length), ("begin",)), expected)

    def test_fifty_calls(self):
        self.assertEqual(ask(("create", 1, 1, 1), *[("begin",)] * 49), [0] * 50)

    def test_the_list_handed_in_is_never_touched(self):
        class Untouched(list):
            def refuse(self, *arguments, **keywords):
                raise AssertionError("the list that was handed in is changed")

            append = extend = insert = pop = remove = clear = reverse = sort = refuse
            __setitem__ = __delitem__ = __iadd__ = __imul__ = refuse

        calls = [0, 7, 1, 1, 3, 0, 0, 2, 2, 4, 0, 0, 2, 500, 500, 5, 6, 100, 7, 100, 8, 0, 9, 0, 10, 11, 0]
        untouched = Untouched(calls)
        self.assertEqual(answers(untouched), answers(list(calls)))
        self.assertEqual(list(untouched), calls)

    def test_the_same_list_has_the_same_answers_again(self):
        calls = [0, 3, 1, 1, 3, 0, 0, 1, 90, 5, 6, 500, 11, 0]
        self.assertEqual(answers(calls), answers(calls))


class Create(unittest.TestCase):
    def test_least_and_greatest_counts(self):
        for seed in (0, 1, LARGEST):
            for station_count in (1, 4):
                for class_count in (1, 3):
                    self.assertEqual(ask(("create", seed, station_count, class_count)), [0])

    def test_counts_outside_their_ranges(self):
        for counts in [(0, 1), (5, 1), (LARGEST, 1), (1, 0), (1, 4), (1, LARGEST), (0, 0), (5, 4)]:
            self.assertEqual(ask(("create", 0, *counts)), [-22], counts)

    def test_stations_and_classes_are_as_many_as_asked_for(self):
        for station_count in range(1, 5):
            for class_count in range(1, 4):
                answered = ask(
                    ("create", 1, station_count, class_count),
                    ("set_service", station_count - 1, class_count - 1, 1, 1),
                    ("set_service", station_count, class_count - 1, 1, 1),
                    ("set_service", station_count - 1, class_count, 1, 1),
                    ("set_route", 0, 0, [0] * (station_count + 1)),
                )
                self.assertEqual(answered, [0, 0, -2, -2, 0])

    def test_the_seed_decides_the_draws(self):
        for seed in (0, 1, 77, LARGEST):
            expected = reference.draw(1, 10000, reference.hashed(seed, 1, 0, 0))
            answered = ask_last(("create", seed, 1, 1), ("set_source", 0, 0, 1, 10000), ("begin",), ("step", 1))
            self.assertEqual(answered, (expected, 1))

    def test_at_first_there_are_no_arrivals_in_any_class(self):
        self.assertEqual(ask(("create", 1, 4, 3), ("begin",), ("step", 500), ("clock",)), [0, 0, (0, 0), (0, 0, 0)])

    def test_at_first_there_is_no_run_and_no_checkpoint(self):
        answered = ask(("create", 1, 1, 1), ("clock",), ("restore", 0), ("restore", 1), ("restore", 2))
        self.assertEqual(answered, [0, -6, -33, -33, -33])

    def test_at_first_each_station_has_one_server_that_takes_one(self):
        for station in range(4):
            answered = ask(
                ("create", 1, 4, 3), ("set_source", 2, station, 5, 5), ("set_source", 1, station, 5, 5), ("begin",),
                ("run_until", 5), ("station_counts", station),
                ("run_until", 6), ("station_counts", station),
                ("run_until", 7), ("station_counts", station), ("clock",),
            )
            self.assertEqual(answered[5], (2, 0, 0, 1, 1, 2))
            self.assertEqual(answered[7], (2, 1, 0, 1, 0, 2))
            # They have left: nothing is planned but the next two arrivals.
            self.assertEqual(answered[9:], [(2, 2, 0, 0, 0, 2), (7, 4, 2)])

    def test_at_first_there_is_no_limit_of_capacity(self):
        answered = ask(
            ("create", 1, 1, 1), ("set_service", 0, 0, 10000, 10000), ("set_source", 0, 0, 1, 1),
            ("begin",), ("step", 300), ("station_counts", 0),
        )
        self.assertEqual(answered[-1], (300, 0, 0, 1, 299, 300))

    def test_at_first_the_discipline_is_first_come_first_served(self):
        # Class 1 comes ahead of class 0 while class 2 is being served, and has the longer service.
        answered = ask(
            ("create", 1, 2, 3), ("set_service", 0, 2, 9, 9), ("set_service", 0, 1, 5, 5), ("set_service", 0, 0, 2, 2),
            ("set_source", 2, 0, 10, 10), ("set_source", 1, 0, 11, 11), ("set_source", 0, 0, 12, 12),
            ("set_route", 0, 1, [0, 1, 0]), ("begin",), ("run_until", 24), ("station_counts", 1),
        )
        self.assertEqual(answered[-1], (1, 0, 0, 1, 0, 1))

    def test_an_instance_is_replaced_with_all_that_it_holds(self):
        answered = ask(
            *STEADY, ("begin",), ("step", 3), ("checkpoint", 1),
            ("create", 1, 1, 1), ("clock",), ("restore", 1), ("set_station", 1, 1, 0, 0), ("begin",),
        )
        self.assertEqual(answered[-5:], [0, -6, -33, -2, 0])

    def test_a_create_that_fails_keeps_the_instance(self):
        for counts in [(0, 1), (5, 1), (1, 0), (1, 4)]:
            answered = ask(
                *STEADY, ("begin",), ("step", 3), ("checkpoint", 1), ("step", 2),
                ("create", 2, *counts), ("clock",), ("station_counts", 0), ("step", 1), ("restore", 1), ("clock",),
                ("begin",), ("step", 1),
            )
            expected = [-22, (30, 5, 2), (3, 2, 0, 1, 0, 1), (34, 1), 20, (20, 3, 2), 1, (10, 1)]
            self.assertEqual(answered[-8:], expected)


class Changes(unittest.TestCase):
    CHANGES = [
        ("set_station", 0, 1, 0, 0),
        ("set_service", 0, 0, 4, 4),
        ("set_source", 0, 0, 10, 10),
        ("set_route", 0, 0, [0, 0, 0]),
    ]
    REFUSED = [
        ("set_station", 2, 1, 0, 0),
        ("set_station", 0, 2, 1, 0),
        ("set_service", 2, 0, 4, 4),
        ("set_service", 0, 0, 5, 4),
        ("set_source", 2, 0, 10, 10),
        ("set_source", 0, 0, 11, 10),
        ("set_route", 2, 0, [0, 0, 0]),
        ("set_route", 0, 0, [1, 1, 1001]),
    ]
    LOOKS = [
        ("station_counts", 0), ("station_areas", 0), ("little", 0), ("class_counts", 0), ("serving", 0), ("queue", 0),
        ("job_info", 0), ("next_events", 1), ("digest",), ("compare", 0),
    ]
    AFTER = [("clock",), ("restore", 0), ("restore", 1), ("restore", 2), ("step", 1), ("run_until", 50)]

    def with_a_run(self, call):
        saved = [("checkpoint", 0), ("checkpoint", 1), ("checkpoint", 2)]
        return ask(*STEADY, ("begin",), ("step", 3), *saved, call, *self.AFTER)[-len(self.AFTER) - 1:]

    def test_every_change_ends_the_run_and_clears_the_checkpoints(self):
        for change in self.CHANGES:
            self.assertEqual(self.with_a_run(change), [0, -6, -33, -33, -33, -6, -6], change)

    def test_without_the_run_there_is_nothing_to_look_at(self):
        for change in self.CHANGES:
            answered = ask(*STEADY, ("begin",), ("step", 3), ("checkpoint", 0), change, *self.LOOKS)
            self.assertEqual(answered[-len(self.LOOKS):], [-6] * len(self.LOOKS), change)

    def test_a_change_that_is_refused_does_neither(self):
        for change in self.REFUSED:
            answered = self.with_a_run(change)
            self.assertIn(answered[0], (-2, -22))
            self.assertEqual(answered[1:], [(20, 3, 2), 20, 20, 20, (24, 1), 5], change)

    def test_a_change_that_is_refused_leaves_the_network_as_it_was(self):
        for change in self.REFUSED:
            later = [("begin",), ("step", 9), ("station_counts", 0), ("station_counts", 1)]
            self.assertEqual(ask(*STEADY, change, *later)[-4:], ask(*STEADY, *later)[-4:], change)


class SetStation(unittest.TestCase):
    def answer(self, *arguments):
        return ask_last(("create", 1, 2, 1), ("set_station", *arguments))

    def test_least_and_greatest_values(self):
        for arguments in [
            (0, 1, 0, 0), (1, 1, 0, 0), (0, 8, 0, 0), (0, 1, 1, 0), (0, 8, 8, 0), (0, 1, 100, 0), (0, 8, 100, 0),
            (0, 5, 5, 1), (0, 3, 4, 2), (0, 1, 0, 3),
        ]:
            self.assertEqual(self.answer(*arguments), 0, arguments)

    def test_no_such_station(self):
        for station in (2, 3, 4, LARGEST):
            self.assertEqual(self.answer(station, 1, 0, 0), -2)

    def test_values_outside_their_ranges(self):
        for arguments in [
            (0, 0, 0, 0), (0, 9, 0, 0), (0, LARGEST, 0, 0), (0, 0, 5, 0), (0, 9, 50, 0),
            (0, 2, 1, 0), (0, 8, 7, 0), (0, 1, 101, 0), (0, 1, LARGEST, 0),
            (0, 1, 0, 4), (0, 1, 0, LARGEST), (0, 0, 101, 4),
        ]:
            self.assertEqual(self.answer(*arguments), -22, arguments)

    def test_the_station_is_asked_for_first(self):
        for arguments in [(2, 0, 0, 0), (2, 2, 1, 0), (2, 1, 0, 4), (LARGEST, LARGEST, LARGEST, LARGEST)]:
            self.assertEqual(self.answer(*arguments), -2, arguments)

    def counts(self, servers, capacity):
        return ask_last(
            ("create", 1, 2, 1), ("set_station", 0, servers, capacity, 0), ("set_service", 0, 0, 10000, 10000),
            ("set_source", 0, 0, 1, 1), ("begin",), ("step", 200), ("station_counts", 0),
        )

    def test_servers_work_side_by_side(self):
        self.assertEqual(self.counts(1, 0), (200, 0, 0, 1, 199, 200))
        self.assertEqual(self.counts(3, 0), (200, 0, 0, 3, 197, 200))
        self.assertEqual(self.counts(8, 0), (200, 0, 0, 8, 192, 200))

    def test_a_capacity_of_as_many_as_there_are_servers_leaves_no_room_to_wait(self):
        self.assertEqual(self.counts(1, 1), (1, 0, 199, 1, 0, 1))
        self.assertEqual(self.counts(8, 8), (8, 0, 192, 8, 0, 8))

    def test_the_greatest_capacity(self):
        self.assertEqual(self.counts(8, 100), (100, 0, 100, 8, 92, 100))
        self.assertEqual(self.counts(1, 99), (99, 0, 101, 1, 98, 99))

    def test_each_station_is_changed_alone(self):
        answered = ask(
            ("create", 1, 2, 2), ("set_station", 1, 2, 3, 0), ("set_source", 0, 0, 1, 1), ("set_source", 1, 1, 1, 1),
            *[("set_service", station, station, 10000, 10000) for station in (0, 1)],
            ("begin",), ("run_until", 50), ("station_counts", 0), ("station_counts", 1),
        )
        self.assertEqual(answered[-2:], [(50, 0, 0, 1, 49, 50), (3, 0, 47, 2, 1, 3)])

    def test_the_last_change_counts(self):
        answered = ask(
            ("create", 1, 1, 1), ("set_station", 0, 8, 9, 3), ("set_station", 0, 1, 0, 0),
            ("set_service", 0, 0, 10000, 10000), ("set_source", 0, 0, 1, 1),
            ("begin",), ("step", 30), ("station_counts", 0),
        )
        self.assertEqual(answered[-1], (30, 0, 0, 1, 29, 30))


class SetService(unittest.TestCase):
    def answer(self, *arguments):
        return ask_last(("create", 1, 2, 3), ("set_service", *arguments))

    def test_least_and_greatest_values(self):
        for arguments in [(0, 0, 1, 1), (1, 2, 1, 10000), (0, 2, 10000, 10000), (1, 0, 5, 6)]:
            self.assertEqual(self.answer(*arguments), 0, arguments)

    def test_no_such_station_or_class(self):
        for arguments in [(2, 0, 1, 1), (LARGEST, 0, 1, 1), (0, 3, 1, 1), (0, LARGEST, 1, 1), (2, 3, 1, 1)]:
            self.assertEqual(self.answer(*arguments), -2, arguments)

    def test_values_outside_their_ranges(self):
        for low_high in [
            (0, 0), (0, 1), (1, 0), (2, 1), (10000, 9999), (1, 10001), (10001, 10001), (1, LARGEST), (LARGEST, LARGEST),
        ]:
            self.assertEqual(self.answer(0, 0, *low_high), -22, low_high)

    def test_station_and_class_are_asked_for_first(self):
        self.assertEqual(self.answer(2, 0, 0, 0), -2)
        self.assertEqual(self.answer(0, 3, 2, 1), -2)

    def test_each_class_has_its_range_at_each_station(self):
        answered = ask(
            ("create", 1, 2, 2),
            ("set_service", 0, 0, 3, 3), ("set_service", 1, 0, 5, 5), ("set_service", 0, 1, 7, 7),
            ("set_source", 0, 0, 100, 100), ("set_route", 0, 0, [0, 1, 0]), ("begin",),
            *[("step", 1)] * 3,
            ("set_source", 0, 0, 0, 0), ("set_source", 1, 0, 100, 100), ("set_route", 0, 1, [0, 1, 0]), ("begin",),
            *[("step", 1)] * 3,
        )
        self.assertEqual(answered[7:10], [(100, 1), (103, 1), (108, 1)])
        self.assertEqual(answered[14:], [(100, 1), (107, 1), (108, 1)])

    def test_services_are_drawn_by_customer_and_visits_before(self):
        answered = ask(
            ("create", 5, 1, 1), ("set_service", 0, 0, 20, 900), ("set_source", 0, 0, 10000, 10000),
            ("set_route", 0, 0, [1, 0]), ("begin",), *[("step", 1)] * 4,
        )
        time = 10000
        for visits, answer in enumerate(answered[-3:]):
            time += reference.draw(20, 900, reference.hashed(5, 2, 0, visits))
            self.assertEqual(answer, (time, 1))


class SetSource(unittest.TestCase):
    def answer(self, *arguments):
        return ask_last(("create", 1, 2, 3), ("set_source", *arguments))

    def test_least_and_greatest_values(self):
        for arguments in [(0, 0, 0, 0), (2, 1, 1, 1), (0, 1, 1, 10000), (1, 0, 10000, 10000)]:
            self.assertEqual(self.answer(*arguments), 0, arguments)

    def test_no_such_class_or_station(self):
        for arguments in [(3, 0, 1, 1), (LARGEST, 0, 1, 1), (0, 2, 1, 1), (0, LARGEST, 1, 1), (3, 2, 1, 1)]:
            self.assertEqual(self.answer(*arguments), -2, arguments)

    def test_values_outside_their_ranges(self):
        for low_high in [
            (0, 1), (0, 10000), (1, 0), (2, 1), (10000, 9999), (1, 10001), (10001, 10001), (0, 10001), (0, LARGEST),
            (LARGEST, 0), (LARGEST, LARGEST),
        ]:
            self.assertEqual(self.answer(0, 0, *low_high), -22, low_high)

    def test_class_and_station_are_asked_for_first(self):
        self.assertEqual(self.answer(3, 0, 0, 1), -2)
        self.assertEqual(self.answer(0, 2, 2, 1), -2)

    def test_a_range_of_nothing_stops_the_arrivals_of_this_class_alone(self):
        answered = ask(
            ("create", 1, 1, 3), *[("set_source", number, 0, 3, 3) for number in range(3)],
            ("begin",), ("set_source", 1, 0, 0, 0), ("begin",), ("step", 2), ("station_counts", 0),
        )
        self.assertEqual(answered[4], 3)
        self.assertEqual(answered[-3:], [2, (3, 2), (2, 0, 0, 1, 1, 2)])

    def test_customers_come_to_the_station_of_the_source_first(self):
        answered = ask(
            ("create", 1, 3, 2), ("set_source", 0, 2, 4, 4), ("set_source", 1, 1, 2, 2), ("begin",), ("run_until", 4),
            *[("station_counts", station) for station in range(3)],
        )
        self.assertEqual(answered[-3:], [(0, 0, 0, 0, 0, 0), (2, 1, 0, 1, 0, 1), (1, 0, 0, 1, 0, 1)])

    def test_gaps_are_drawn_by_class_and_number(self):
        for class_number in range(3):
            answered = ask(
                ("create", 11, 1, 3), ("set_source", class_number, 0, 50, 9000), ("begin",), *[("step", 1)] * 7,
            )
            gaps = [
                reference.draw(50, 9000, reference.hashed(11, 1, class_number, number)) for number in range(4)
            ]
            arrivals = [sum(gaps[:number + 1]) for number in range(4)]
            # Every arrival but the last is followed by the end of its service, which takes 1.
            times = sorted(arrivals + [time + 1 for time in arrivals[:3]])
            self.assertEqual(answered[-7:], [(time, 1) for time in times])


class SetRoute(unittest.TestCase):
    def answer(self, *arguments):
        return ask_last(("create", 1, 2, 3), ("set_route", *arguments))

    def test_the_sum_is_answered(self):
        self.assertEqual(self.answer(0, 0, [0, 0, 0]), 0)
        self.assertEqual(self.answer(1, 2, [1, 2, 4]), 7)
        self.assertEqual(self.answer(1, 0, [0, 1000, 0]), 1000)
        self.assertEqual(self.answer(0, 2, [1000, 1000, 1000]), 3000)
        self.assertEqual(ask_last(("create", 1, 4, 1), ("set_route", 3, 0, [1000] * 5)), 5000)

    def test_no_such_station_or_class(self):
        for place in [(2, 0), (LARGEST, 0), (0, 3), (0, LARGEST), (2, 3)]:
            self.assertEqual(self.answer(*place, [0, 0, 0]), -2, place)

    def test_lists_of_another_length(self):
        for length in [0, 1, 2, 4, 5, 16]:
            self.assertEqual(self.answer(0, 0, [1] * length), -22, length)

    def test_weights_outside_their_range(self):
        for weights in [[1001, 0, 0], [0, 1001, 0], [0, 0, 1001], [LARGEST] * 3, [1000, LARGEST, 1000]]:
            self.assertEqual(self.answer(0, 0, weights), -22, weights)

    def test_station_and_class_are_asked_for_first(self):
        self.assertEqual(self.answer(2, 0, []), -2)
        self.assertEqual(self.answer(0, 3, [1001, 0, 0]), -2)

    def accepted(self, weights, class_number=0):
        """How many customers stations 1 to 3 have accepted of eighty that were served at station 0."""
        answered = ask(
            ("create", 21, 4, 2), ("set_source", class_number, 0, 10, 10), ("set_route", 0, class_number, weights),
            ("begin",), ("run_until", 801), *[("station_counts", station) for station in (1, 2, 3)],
        )
        return [answer[0] for answer in answered[-3:]]

    def test_weights_of_nothing_let_all_customers_leave(self):
        self.assertEqual(self.accepted([0, 0, 0, 0, 0]), [0, 0, 0])

    def test_a_weight_for_leaving_alone_lets_all_customers_leave(self):
        self.assertEqual(self.accepted([0, 0, 0, 0, 7]), [0, 0, 0])

    def test_one_weight_sends_all_customers_there(self):
        self.assertEqual(self.accepted([0, 1, 0, 0, 0]), [80, 0, 0])
        self.assertEqual(self.accepted([0, 0, 1000, 0, 0]), [0, 80, 0])
        self.assertEqual(self.accepted([0, 0, 0, 3, 0], 1), [0, 0, 80])

    def test_several_weights_share_the_customers_by_their_draws(self):
        for weights in [[0, 1, 1, 0, 0], [0, 5, 0, 7, 1], [0, 1000, 1, 999, 1000], [0, 0, 0, 1, 1]]:
            expected = [0, 0, 0, 0, 0]
            for customer in range(80):
                drawn = reference.draw(0, sum(weights) - 1, reference.hashed(21, 3, customer, 0))
                expected[[sum(weights[:place + 1]) > drawn for place in range(5)].index(True)] += 1
            self.assertEqual(self.accepted(weights), expected[1:4])

    def test_each_class_has_its_weights_at_each_station(self):
        answered = ask(
            ("create", 1, 3, 2), ("set_source", 0, 0, 10, 10), ("set_source", 1, 0, 15, 15),
            ("set_route", 0, 0, [0, 1, 0, 0]), ("set_route", 1, 0, [0, 0, 1, 0]), ("set_route", 2, 1, [0, 1, 0, 0]),
            ("begin",), ("run_until", 14), ("station_counts", 1), ("station_counts", 2),
            ("run_until", 19), ("station_counts", 1), ("station_counts", 2),
        )
        once = (1, 1, 0, 0, 0, 1)
        self.assertEqual(answered[-5:], [once, once, 2, once, once])

    def test_a_way_back_to_the_same_station(self):
        answered = ask(
            ("create", 1, 1, 1), ("set_station", 0, 1, 1, 0), ("set_service", 0, 0, 2, 2),
            ("set_source", 0, 0, 10000, 10000), ("set_route", 0, 0, [1, 0]),
            ("begin",), ("run_until", 10010), ("station_counts", 0), ("clock",),
        )
        self.assertEqual(answered[-2:], [(6, 5, 0, 1, 0, 1), (10010, 6, 2)])


if __name__ == "__main__":
    unittest.main()
