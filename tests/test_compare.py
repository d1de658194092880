"""compare and summary: whether a run is that of a checkpoint, and what an instance holds."""

import unittest

from tests.calling import BUSY, LARGEST, ask, ask_last

# One class comes at 10, 20, 30 and so on; its service takes 4.
STEADY = (("create", 1, 1, 1), ("set_service", 0, 0, 4, 4), ("set_source", 0, 0, 10, 10), ("begin",))


class Compare(unittest.TestCase):
    def test_no_such_checkpoint(self):
        for slot in (3, 4, LARGEST):
            self.assertEqual(ask_last(*STEADY, ("compare", slot)), -2)

    def test_the_checkpoint_is_asked_for_ahead_of_the_run(self):
        for slot in (3, LARGEST):
            self.assertEqual(ask_last(("create", 1, 1, 1), ("compare", slot)), -2)

    def test_without_a_run(self):
        for slot in range(3):
            self.assertEqual(ask_last(("create", 1, 1, 1), ("compare", slot)), -6)
            changed = (*STEADY, ("checkpoint", slot), ("set_station", 0, 1, 0, 0))
            self.assertEqual(ask_last(*changed, ("compare", slot)), -6)

    def test_a_checkpoint_that_contains_nothing(self):
        for slot in range(3):
            others = [("checkpoint", other) for other in range(3) if other != slot]
            self.assertEqual(ask_last(*STEADY, *others, ("compare", slot)), -33)

    def test_a_run_with_itself(self):
        for slot in range(3):
            for calls in (STEADY, BUSY, (*BUSY, ("step", 200)), (*STEADY, ("run_until", 12))):
                self.assertEqual(ask_last(*calls, ("checkpoint", slot), ("compare", slot)), 1)

    def test_behind_an_event(self):
        for count in (0, 1, 2, 3, 50, 200):
            before = [("step", count)] if count > 0 else []
            moves = [*before, ("checkpoint", 0), ("step", 1), ("compare", 0), ("restore", 0), ("compare", 0)]
            answered = ask(*BUSY, *moves)
            self.assertEqual([answered[-3], answered[-1]], [0, 1], count)

    def test_behind_an_event_at_the_same_time(self):
        # Three classes come at 10, and are lost but for the first one.
        calls = (
            ("create", 1, 1, 3), ("set_station", 0, 1, 1, 0),
            *[("set_source", number, 0, 10, 10) for number in range(3)],
            ("begin",), ("step", 1), ("checkpoint", 0),
        )
        answered = ask(*calls, *[call for _ in range(2) for call in (("step", 1), ("compare", 0), ("clock",))])
        self.assertEqual([answered[9], answered[12]], [0, 0])
        self.assertEqual([answered[10][0], answered[13][0]], [10, 10])

    def test_behind_run_until_without_an_event(self):
        answered = ask(*STEADY, ("step", 2), ("checkpoint", 1), ("run_until", 19), ("compare", 1))
        self.assertEqual(answered[-2:], [0, 0])
        answered = ask(*STEADY, ("checkpoint", 1), ("run_until", 1), ("compare", 1))
        self.assertEqual(answered[-2:], [0, 0])

    def test_behind_run_until_in_a_network_without_arrivals(self):
        calls = (("create", 1, 1, 1), ("begin",), ("checkpoint", 0), ("run_until", 0), ("compare", 0))
        self.assertEqual(ask(*calls)[-1], 1)
        self.assertEqual(ask(*calls, ("run_until", 1), ("compare", 0))[-2:], [0, 0])

    def test_behind_run_until_at_the_present_time(self):
        answered = ask(*STEADY, ("step", 3), ("checkpoint", 1), ("run_until", 20), ("compare", 1))
        self.assertEqual(answered[-2:], [0, 1])

    def test_behind_a_step_without_events(self):
        calls = (("create", 1, 1, 1), ("begin",), ("run_until", 9), ("checkpoint", 2))
        answered = ask(*calls, ("step", 5), ("compare", 2))
        self.assertEqual(answered[-2:], [(9, 0), 1])

    def test_behind_errors(self):
        wrong = [
            ("step", 0), ("run_until", 0), ("run_until", 1000000), ("restore", 1), ("checkpoint", 3),
            ("create", 1, 0, 0), ("set_station", 9, 1, 0, 0), ("set_route", 0, 0, []), ("draw", 2, 1, []),
            ("compare", 2),
        ]
        answered = ask(*STEADY, ("step", 7), ("checkpoint", 0), *wrong, ("compare", 0))
        self.assertTrue(all(answer < 0 for answer in answered[-11:-1]))
        self.assertEqual(answered[-1], 1)

    def test_the_same_state_on_different_ways(self):
        ways = [
            [("run_until", 40)],
            [("step", 7)] + [("run_until", 40)],
            [("step", 1)] * 3 + [("run_until", 33), ("run_until", 39), ("run_until", 40)],
            [("run_until", time) for time in range(1, 41)],
            [("step", 2), ("checkpoint", 2), ("step", 50), ("restore", 2), ("run_until", 40)],
            [("run_until", 500000), ("step", 7), ("run_until", 40)],
        ]
        for one in ways:
            for other in ways:
                answered = ask(*STEADY, *one, ("checkpoint", 0), ("begin",), *other, ("compare", 0))
                self.assertEqual(answered[-1], 1, (one, other))

    def test_the_same_number_of_events_in_one_step_and_in_many(self):
        for parts in [(1, 1), (10, 20), (199, 1), (7,) * 20]:
            answered = ask(
                *BUSY, ("step", sum(parts)), ("checkpoint", 0), ("begin",), *[("step", part) for part in parts],
                ("compare", 0),
            )
            self.assertEqual(answered[-1], 1)

    def test_run_until_the_time_of_the_last_event(self):
        stepped = ask(*BUSY, ("step", 90))[-1]
        answered = ask(*BUSY, ("step", 90), ("checkpoint", 0), ("begin",), ("run_until", stepped[0]), ("clock",),
                       ("compare", 0))
        self.assertEqual(answered[-1], int(answered[-2][1] == 90))

    def test_two_runs_of_one_network_are_the_same_from_their_beginning(self):
        self.assertEqual(ask(*BUSY, ("checkpoint", 0), ("step", 5), ("begin",), ("compare", 0))[-1], 1)

    def test_the_same_counts_at_different_times_are_not_the_same(self):
        # At 14 and at 24 the station is empty, and the areas differ; at 14 and 15 they don't.
        for earlier, later in [(14, 24), (14, 15), (9, 10), (9, 8)]:
            answered = ask(
                *STEADY, ("run_until", earlier), ("checkpoint", 0), ("begin",), ("run_until", later), ("compare", 0),
            )
            self.assertEqual(answered[-1], 0)

    def test_each_checkpoint_is_compared_alone(self):
        answered = ask(
            *BUSY, *[call for slot in range(3) for call in (("step", 20), ("checkpoint", slot))],
            ("restore", 1), *[("compare", slot) for slot in range(3)],
            ("step", 20), *[("compare", slot) for slot in range(3)],
        )
        self.assertEqual(answered[-7:-4], [0, 1, 0])
        self.assertEqual(answered[-3:], [0, 0, 1])

    def test_it_changes_neither_of_the_two(self):
        later = [("step", 40), ("digest",), ("restore", 0), ("digest",), ("step", 40), ("digest",)]
        before = (*BUSY, ("step", 20), ("checkpoint", 0), ("step", 20))
        self.assertEqual(ask(*before, ("compare", 0), *later)[-6:], ask(*before, *later)[-6:])


class Summary(unittest.TestCase):
    def test_numbers_of_stations_and_classes(self):
        for station_count in range(1, 5):
            for class_count in range(1, 4):
                answer = ask_last(("create", 5, station_count, class_count), ("summary",))
                self.assertEqual(answer, (station_count, class_count, 0, 0))

    def test_with_and_without_a_run(self):
        answered = ask(
            ("create", 5, 2, 3), ("summary",), ("begin",), ("summary",), ("step", 1), ("summary",), ("begin",),
            ("summary",), ("set_source", 0, 0, 1, 1), ("summary",),
        )
        self.assertEqual(answered[1::2], [(2, 3, 0, 0), (2, 3, 1, 0), (2, 3, 1, 0), (2, 3, 1, 0), (2, 3, 0, 0)])

    def test_checkpoints(self):
        for order in [(0, 1, 2), (2, 0, 1), (1, 2, 0)]:
            calls = [call for slot in order for call in (("checkpoint", slot), ("summary",))]
            answered = ask(*STEADY, *calls)[len(STEADY):]
            self.assertEqual(answered[1::2], [(1, 1, 1, count) for count in (1, 2, 3)])

    def test_a_checkpoint_that_is_replaced_counts_once(self):
        calls = [("checkpoint", 1), ("step", 1), ("checkpoint", 1), ("summary",)]
        self.assertEqual(ask_last(*STEADY, *calls), (1, 1, 1, 1))

    def test_restore_and_begin_leave_the_checkpoints(self):
        calls = [("checkpoint", 1), ("checkpoint", 0), ("restore", 1), ("summary",), ("begin",), ("summary",)]
        answered = ask(*STEADY, *calls)
        self.assertEqual([answered[-3], answered[-1]], [(1, 1, 1, 2), (1, 1, 1, 2)])

    def test_every_change_of_the_network_leaves_none(self):
        for change in [
            ("set_station", 0, 1, 0, 0), ("set_service", 0, 0, 4, 4), ("set_source", 0, 0, 10, 10),
            ("set_route", 0, 0, [0, 0]), ("create", 1, 1, 1),
        ]:
            saved = [("checkpoint", slot) for slot in range(3)]
            answered = ask(*STEADY, *saved, ("summary",), change, ("summary",))
            self.assertEqual([answered[-3], answered[-1]], [(1, 1, 1, 3), (1, 1, 0, 0)], change)

    def test_a_create_that_fails_leaves_all(self):
        answered = ask(*STEADY, ("checkpoint", 0), ("create", 1, 5, 1), ("summary",), ("create", 1, 4, 2), ("summary",))
        self.assertEqual(answered[-4:], [-22, (1, 1, 1, 1), 0, (4, 2, 0, 0)])


if __name__ == "__main__":
    unittest.main()
