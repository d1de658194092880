"""The examples of the document, whole, and that of the README."""

import unittest

from tests.calling import ask
from waitworks.simulator import answers


class Examples(unittest.TestCase):
    def check(self, rows):
        answered = ask(*[call for call, _ in rows])
        for (call, expected), answer in zip(rows, answered):
            self.assertEqual(answer, expected, call)

    def test_two_stations_one_after_another(self):
        self.check([
            (("clock",), -11),
            (("create", 7, 2, 1), 0),
            (("clock",), -6),
            (("set_station", 0, 1, 0, 0), 0),
            (("set_service", 0, 0, 3, 3), 0),
            (("set_service", 1, 0, 2, 2), 0),
            (("set_source", 0, 0, 2, 2), 0),
            (("set_route", 0, 0, [0, 1, 0]), 1),
            (("begin",), 1),
            (("step", 1), (2, 1)),
            (("step", 2), (5, 2)),
            (("run_until", 7), 2),
            (("clock",), (7, 5, 2)),
            (("station_counts", 0), (3, 1, 0, 1, 1, 2)),
            (("station_areas", 0), (7, 5, 7)),
            (("little", 0), (7, 3, 4)),
            (("class_counts", 0), (3, 1, 0, 5, 5)),
            (("serving", 0), (1, 1)),
            (("queue", 0), (1, 2)),
            (("job_info", 1), (0, 0, 4, 4, 0, 3, 1)),
            (("job_info", 0), -2),
            (("next_events", 5), (2, 8, 0, 0, 1, 8, 1, 0, 0)),
            (("checkpoint", 0), 0),
            (("step", 1), (8, 1)),
            (("compare", 0), 0),
            (("restore", 0), 7),
            (("compare", 0), 1),
            (("draw", 3, 3, [5]), 3),
            (("run_until", 6), -22),
            (("step", 0), -22),
            (("restore", 1), -33),
            (("set_station", 0, 2, 2, 0), 0),
            (("clock",), -6),
            (("restore", 0), -33),
            (("summary",), (2, 1, 0, 0)),
        ])

    def test_one_station_without_room_to_wait(self):
        self.check([
            (("create", 1, 1, 1), 0),
            (("set_station", 0, 1, 1, 0), 0),
            (("set_service", 0, 0, 5, 5), 0),
            (("set_source", 0, 0, 2, 2), 0),
            (("begin",), 1),
            (("run_until", 6), 3),
            (("station_counts", 0), (1, 0, 2, 1, 0, 1)),
            (("class_counts", 0), (3, 0, 2, 0, 0)),
            (("run_until", 1000000), -28),
            (("set_source", 0, 0, 0, 0), 0),
            (("begin",), 0),
            (("step", 3), (0, 0)),
            (("set_source", 0, 0, 0, 5), -22),
            (("set_station", 0, 0, 0, 0), -22),
            (("set_route", 0, 0, [1]), -22),
            (("checkpoint", 3), -2),
        ])

    def test_the_example_of_the_readme(self):
        calls = [0, 7, 1, 1, 2, 0, 0, 3, 3, 3, 0, 0, 2, 2, 4, 0, 0, 2, 0, 1, 5, 7, 7, 11, 0, 13, 0]
        expected = [1, 0, 1, 0, 1, 0, 1, 1, 1, 1, 1, 4, 6, 3, 1, 0, 1, 1, 2, 3, 7, 3, 4]
        self.assertEqual(answers(calls), expected)


if __name__ == "__main__":
    unittest.main()
