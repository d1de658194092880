"""draw and digest, against the document's formulas written out and against a second simulator."""

import unittest

from tests import reference
from tests.calling import LARGEST, ask, ask_last
from tests.reference import Reference
from waitworks.simulator import answers


class Draw(unittest.TestCase):
    VALUES = [[], [0], [5], [LARGEST], [1, 2, 3], [3, 2, 1], list(range(16)), [LARGEST] * 16]
    RANGES = [(0, 0), (0, 1), (3, 3), (1, 6), (0, 999), (17, 10000), (LARGEST - 1, LARGEST), (LARGEST, LARGEST)]

    def test_a_range_of_one_number(self):
        for number in (0, 3, 4294967294, LARGEST):
            for values in self.VALUES:
                self.assertEqual(ask_last(("create", 1, 1, 1), ("draw", number, number, values)), number)

    def test_many_draws(self):
        for seed in (0, 1, 7, LARGEST):
            calls = [("draw", low, high, values) for low, high in self.RANGES for values in self.VALUES]
            expected = [
                reference.draw(low, high, reference.hashed(seed, *values)) for _, low, high, values in calls
            ]
            self.assertEqual(ask(("create", seed, 1, 1), *calls)[1:], expected)

    def test_the_whole_range(self):
        # That is the upper half of the word.
        for values in self.VALUES:
            word = reference.hashed(12, *values)
            self.assertEqual(ask_last(("create", 12, 1, 1), ("draw", 0, LARGEST, values)), word // 2 ** 32)

    def test_no_values(self):
        # The hash of the seed 0 and no values is a known word.
        self.assertEqual(ask_last(("create", 0, 1, 1), ("draw", 0, LARGEST, [])), 0xE220A839)

    def test_a_range_that_ends_ahead_of_its_beginning(self):
        for low, high in [(1, 0), (LARGEST, 0), (LARGEST, LARGEST - 1), (10, 9)]:
            for values in self.VALUES:
                self.assertEqual(ask_last(("create", 1, 1, 1), ("draw", low, high, values)), -22)

    def test_lists_of_every_length_are_read_to_their_end(self):
        for length in range(17):
            values = [21] * length
            word = reference.hashed(1, *values)
            draws = [("draw", 0, 9, values), ("summary",), ("draw", 9, 0, values), ("begin",)]
            answered = ask(("create", 1, 2, 1), *draws)
            self.assertEqual(answered, [0, reference.draw(0, 9, word), (2, 1, 0, 0), -22, 0])

    def test_how_the_values_stand_in_the_list(self):
        expected = reference.draw(2, 40, reference.hashed(6, 8, 9))
        self.assertEqual(answers([0, 6, 1, 1, 20, 2, 40, 2, 8, 9, 22]), [1, 0, 1, expected, 4, 1, 1, 0, 0])
        self.assertEqual(answers([20, 2, 40, 0, 20, 2, 1, 1, 5]), [1, -11, 1, -11])

    def test_no_run_is_needed_and_none_counts(self):
        call = ("draw", 0, 1000000, [4, 4])
        answered = ask(
            ("create", 3, 1, 1), call, ("set_source", 0, 0, 2, 2), call, ("begin",), call, ("step", 9), call,
        )
        self.assertEqual(len(set(answered[1::2])), 1)

    def test_the_seed_is_that_of_the_last_create(self):
        call = ("draw", 0, LARGEST, [1])
        answered = ask(("create", 3, 1, 1), call, ("create", 4, 1, 1), call, ("create", 5, 0, 1), call)
        words = [reference.hashed(seed, 1) // 2 ** 32 for seed in (3, 4)]
        self.assertEqual(answered[1::2], [words[0], words[1], words[1]])

    def test_it_draws_the_gaps_of_the_sources(self):
        answered = ask(
            ("create", 8, 1, 3), ("set_source", 2, 0, 5, 9000), ("begin",), ("next_events", 1),
            ("draw", 5, 9000, [1, 2, 0]),
        )
        self.assertEqual(answered[3][1], answered[4])


class Digest(unittest.TestCase):
    def test_without_a_run(self):
        self.assertEqual(ask(("create", 1, 1, 1), ("digest",))[1], -6)

    def test_a_run_that_has_begun_without_arrivals(self):
        told = [0, 0, 0, 0, *[0] * 9, *[0] * 9, *[0] * 5]
        self.assertEqual(ask(("create", 55, 2, 1), ("begin",), ("digest",))[-1], reference.hashed(0, *told))

    def test_the_example_of_the_document_written_out(self):
        answered = ask(
            ("create", 7, 2, 1), ("set_service", 0, 0, 3, 3), ("set_service", 1, 0, 2, 2), ("set_source", 0, 0, 2, 2),
            ("set_route", 0, 0, [0, 1, 0]), ("begin",), ("run_until", 7), ("digest",),
        )
        # Seven events have been planned by 7: the arrivals at 2, 4, 6 and 8, and the ends at 5, 8 and 7.
        self.assertEqual(answered[-1], reference.hashed(
            0, 7, 7, 3, 5,
            3, 1, 0, 7, 5, 3, 2, 1, 1, 1, 0, 4, 4, 0, 3, 2, 0, 6, 6, 0, 3,
            1, 1, 0, 2, 2, 2, 1, 0, 0,
            3, 1, 0, 5, 5,
            8, 4, 0, 0, 1, 8, 6, 1, 0, 0,
        ))

    def test_several_stations_and_classes_written_out(self):
        answered = ask(
            ("create", 1, 2, 2), ("set_station", 0, 1, 3, 1), ("set_station", 1, 2, 2, 0),
            *[("set_service", station, number, 100, 100) for station in (0, 1) for number in (0, 1)],
            ("set_source", 0, 0, 10, 10), ("set_source", 1, 1, 18, 18), ("set_route", 0, 0, [0, 1, 0]),
            ("begin",), ("run_until", 111), ("digest",), ("clock",),
        )
        self.assertEqual(answered[-1], (111, 18, 5))
        # At 110 customer 0 goes on from station 0 and is lost at station 1, where 1 and 4 are served since 18 and 36.
        # Customer 3, who came at 30 as the last one, is chosen; 2 waits on, and 16 takes the free room.
        self.assertEqual(answered[-2], reference.hashed(
            0, 111, 23, 17, 18,
            4, 1, 7, 100 + 91 + 81 + 1, 101, 100, 3, 1, 2,
            3, 0, 30, 30, 0, 100, 2, 0, 20, 20, 0, 100, 16, 0, 110, 110, 0, 100,
            2, 0, 5, 93 + 75, 93 + 75, 0, 2, 2, 0,
            1, 1, 18, 18, 0, 100, 4, 1, 36, 36, 0, 100,
            11, 0, 8, 0, 0,
            6, 0, 4, 0, 0,
            118, 5, 0, 1, 1, 120, 22, 1, 0, 0, 126, 20, 1, 1, 0, 136, 9, 0, 1, 4, 210, 21, 0, 0, 3,
        ))

    def test_against_the_second_simulator(self):
        for discipline in range(4):
            model = Reference(77, 3, 2)
            calls = [("create", 77, 3, 2)]
            for station in range(3):
                model.stations[station] = {"servers": station + 1, "capacity": station * 3, "discipline": discipline}
                calls.append(("set_station", station, station + 1, station * 3, discipline))
                for number in range(2):
                    model.service[station, number] = (3, 20 + 9 * number)
                    model.weights[station, number] = [1, 2, 3, 1 + number]
                    calls += [("set_service", station, number, 3, 20 + 9 * number)]
                    calls += [("set_route", station, number, [1, 2, 3, 1 + number])]
            for number in range(2):
                model.source[number] = (number, 1, 9)
                calls.append(("set_source", number, number, 1, 9))
            model.begin()
            expected = [model.digest()]
            looks = [("begin",), ("digest",)]
            for time in range(0, 120, 7):
                model.run_until(time)
                expected.append(model.digest())
                looks += [("run_until", time), ("digest",)]
            self.assertTrue(any(model.queue(station)[0] > 1 for station in range(3)))
            self.assertEqual(ask(*calls, *looks)[len(calls) + 1::2], expected)

    def test_the_seed_of_the_instance_is_not_hashed(self):
        calls = [("set_source", 0, 0, 5, 5), ("begin",), ("step", 30), ("digest",)]
        self.assertEqual(ask_last(("create", 1, 1, 1), *calls), ask_last(("create", 2, 1, 1), *calls))

    def test_it_tells_two_runs_apart(self):
        calls = [("create", 1, 1, 2), ("set_source", 0, 0, 5, 5), ("set_source", 1, 0, 5, 5), ("begin",), ("digest",)]
        moves = [("run_until", 1), ("run_until", 2), ("step", 1), ("step", 1), ("step", 1), ("run_until", 7)]
        answered = ask(*calls, *[call for move in moves for call in (move, ("digest",))])
        self.assertEqual(len(set(answered[4::2])), len(moves) + 1)

    def test_it_is_a_word_beyond_4294967295(self):
        self.assertTrue(2 ** 32 < ask_last(("create", 1, 1, 1), ("begin",), ("digest",)) < 2 ** 64)


if __name__ == "__main__":
    unittest.main()
