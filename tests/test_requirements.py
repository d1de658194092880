"""The requirements of the document on many networks, and a comparison with a second simulator."""

import random
import unittest

from tests.calling import LARGEST, STATION_LOOKS, all_looks, ask
from tests.reference import Reference

NETWORKS = 150


def random_range(chance, most):
    low = chance.randint(1, most)
    return low, chance.randint(low, most)


def random_network(chance):
    """The calls that make a network, and the same network in the second simulator."""
    seed, station_count, class_count = chance.randrange(2 ** 32), chance.randint(1, 4), chance.randint(1, 3)
    calls = [("create", seed, station_count, class_count)]
    model = Reference(seed, station_count, class_count)
    # Short times bring about events at the same time.
    most = chance.choice([1, 2, 4, 15, 100])
    for station in range(station_count):
        servers, discipline = chance.choice([1, 1, 2, 3, 8]), chance.randrange(4)
        capacity = chance.choice([0, servers, servers + 1, servers + 5, 100])
        calls.append(("set_station", station, servers, capacity, discipline))
        model.stations[station] = {"servers": servers, "capacity": capacity, "discipline": discipline}
        for number in range(class_count):
            model.service[station, number] = random_range(chance, most * 2)
            calls.append(("set_service", station, number, *model.service[station, number]))
            model.weights[station, number] = [chance.choice([0, 1, 2, 1000]) for _ in range(station_count + 1)]
            calls.append(("set_route", station, number, model.weights[station, number]))
    for number in range(class_count):
        low_high = chance.choice([random_range(chance, most), random_range(chance, most * 3), (0, 0)])
        model.source[number] = (chance.randrange(station_count), *low_high)
        calls.append(("set_source", number, *model.source[number]))
    return calls, model


def look_calls(model):
    return all_looks(model.station_count, len(model.source))


def look_answers(model):
    return [model.answer(*call) for call in look_calls(model)]


def random_moves(chance, model, count):
    """Calls that move the run of the model about, each with a look at it, and the answers of the model."""
    calls, expected, saved = [("begin",)], [model.begin()], {}
    for _ in range(count):
        move = chance.choice(["step", "step", "run_until", "run_until", "checkpoint", "checkpoint", "restore"])
        slot, number = chance.randrange(3), chance.choice([1, 1, 2, 3, 30, 90])
        if move == "step":
            calls.append(("step", number))
            expected.append(model.step(number))
        elif move == "run_until":
            later = model.time + chance.choice([0, 1, 2, number // 3])
            tried = model.twin()
            executed = tried.run_until(later)
            if executed <= 500:
                model = tried
            calls.append(("run_until", later))
            expected.append(executed if executed <= 500 else -28)
        elif move == "checkpoint":
            saved[slot] = model.twin()
            calls.append(("checkpoint", slot))
            expected.append(0)
        else:
            calls.append(("restore", slot))
            expected.append(saved[slot].time if slot in saved else -33)
            model = saved[slot].twin() if slot in saved else model
        calls += look_calls(model)
        expected += look_answers(model)
        for slot in range(3):
            calls.append(("compare", slot))
            expected.append(model.equals(saved[slot]) if slot in saved else -33)
        calls.append(("summary",))
        expected.append((model.station_count, len(model.source), 1, len(saved)))
    return calls, expected


def some_networks():
    for number in range(NETWORKS):
        chance = random.Random(number)
        calls, model = random_network(chance)
        yield chance, calls, model


class SecondSimulator(unittest.TestCase):
    def test_both_simulators_answer_the_same(self):
        for chance, network, model in some_networks():
            calls, expected = random_moves(chance, model, 12)
            self.assertEqual(ask(*network, *calls)[len(network):], expected, (network, calls))

    def test_long_runs(self):
        for _, network, model in list(some_networks())[:25]:
            model.begin()
            calls, expected = [], []
            for count in (500, 137):
                expected.append(model.step(count))
                expected += look_answers(model)
                calls += [("step", count), *look_calls(model)]
            self.assertEqual(ask(*network, ("begin",), *calls)[len(network) + 1:], expected, network)


class Requirements(unittest.TestCase):
    def each_look(self):
        """For each of many networks its stations, and what is seen of them after each single event."""
        for _, network, model in some_networks():
            looks = [("station_counts", station) for station in range(model.station_count)]
            answered = ask(*network, ("begin",), *[call for _ in range(120) for call in (("step", 1), *looks)])
            answered = answered[len(network) + 1:]
            size = 1 + len(looks)
            seen = [answered[place:place + size] for place in range(0, len(answered), size)]
            yield model.stations, seen

    def test_flow(self):
        for _, seen in self.each_look():
            for _, *stations in seen:
                for accepted, served, _, serving, waiting, _ in stations:
                    self.assertEqual(accepted, served + serving + waiting)

    def test_work(self):
        for stations, seen in self.each_look():
            for _, *counts in seen:
                for station, (_, _, _, serving, waiting, _) in zip(stations, counts):
                    self.assertLessEqual(serving, station["servers"])
                    if waiting > 0:
                        self.assertEqual(serving, station["servers"])

    def test_capacity(self):
        full = 0
        for stations, seen in self.each_look():
            for _, *counts in seen:
                for station, (_, _, lost, serving, waiting, greatest) in zip(stations, counts):
                    if station["capacity"] > 0:
                        self.assertLessEqual(serving + waiting, station["capacity"])
                        self.assertLessEqual(greatest, station["capacity"])
                        full += serving + waiting == station["capacity"]
                    else:
                        self.assertEqual(lost, 0)
        self.assertGreater(full, 100)

    def test_greatest_number(self):
        for _, seen in self.each_look():
            most = [0] * (len(seen[0]) - 1)
            for _, *counts in seen:
                for station, (_, _, _, serving, waiting, greatest) in enumerate(counts):
                    most[station] = max(most[station], serving + waiting)
                    self.assertEqual(greatest, most[station])

    def test_each_lost_customer_is_lost_for_a_station_and_for_a_class(self):
        for _, network, model in some_networks():
            stations = [("station_counts", station) for station in range(model.station_count)]
            classes = [("class_counts", number) for number in model.source]
            answered = ask(*network, ("begin",), ("step", 250), *stations, *classes)[len(network) + 2:]
            lost_there = sum(counts[2] for counts in answered[:len(stations)])
            self.assertEqual(sum(counts[2] for counts in answered[len(stations):]), lost_there)

    def test_flow_of_classes(self):
        for _, network, model in list(some_networks())[:60]:
            for count in (5, 60, 250):
                calls = [*network, ("begin",), ("step", count)]
                looks = [(name, station) for station in range(model.station_count) for name in ("serving", "queue")]
                found = [answer for answer in ask(*calls, *looks)[len(calls):] if answer != 0]
                customers = [customer for answer in found for customer in answer[1:]]
                self.assertEqual([len(answer) - 1 for answer in found], [answer[0] for answer in found])
                self.assertEqual(len(customers), len(set(customers)))
                infos = ask(*calls, *[("job_info", customer) for customer in customers])[len(calls):]
                counts = ask(*calls, *[("class_counts", number) for number in model.source])[len(calls):]
                for number, (arrived, left, lost, _, _) in enumerate(counts):
                    self.assertEqual(arrived, left + lost + sum(info[0] == number for info in infos))

    def test_littles_law(self):
        positive = 0
        for chance, network, model in some_networks():
            looks = [("little", station) for station in range(model.station_count)]
            moves = [("step", 1)] * 60 + [("run_until", time) for time in range(200, 240, 3)]
            chance.shuffle(moves)
            answered = ask(*network, ("begin",), *[call for move in moves for call in (move, *looks)])
            for answer in answered[len(network) + 1:]:
                if isinstance(answer, tuple) and len(answer) == 3:
                    area, sojourns, present = answer
                    self.assertEqual(area, sojourns + present)
                    positive += sojourns > 0 and present > 0
        self.assertGreater(positive, 1000)

    def test_no_planned_event_lies_before_the_present_time(self):
        for chance, network, model in some_networks():
            moves = [chance.choice([("step", 1), ("step", 7), ("run_until", 40)]) for _ in range(20)]
            looks = [("clock",), ("next_events", LARGEST)]
            answered = ask(*network, ("begin",), *[call for move in moves for call in (move, *looks)])
            answered = answered[len(network) + 1:]
            for clock, events in zip(answered[1::3], answered[2::3]):
                times = [] if events == 0 else list(events[1::4])
                self.assertEqual(times, sorted(times))
                self.assertEqual(len(times), clock[2])
                self.assertTrue(all(time >= clock[0] for time in times))

    def test_looking_changes_nothing(self):
        for chance, network, model in list(some_networks())[:60]:
            moves = [("step", 9), ("checkpoint", 0), ("run_until", 60), ("checkpoint", 2), ("step", 3), ("restore", 0),
                     ("run_until", 30), ("step", 40), ("restore", 2), ("step", 1), ("begin",), ("step", 2)]
            looks = [
                *look_calls(model), *[("compare", slot) for slot in range(4)], ("draw", 0, 9, [1, 2]), ("summary",),
                ("draw", 2, 1, []),
            ]
            plain = ask(*network, ("begin",), *[call for move in moves for call in (move, ("digest",))])
            looked = ask(*network, ("begin",), *[
                call for move in moves for call in (move, ("digest",), *looks, *looks)
            ])
            size = 2 + 2 * len(looks)
            start = len(network) + 1
            again = [answer for place in range(start, len(looked), size) for answer in looked[place:place + 2]]
            self.assertEqual(again, plain[start:])
            for place in range(start + 2, len(looked), size):
                once, twice = looked[place:place + len(looks)], looked[place + len(looks):place + 2 * len(looks)]
                self.assertEqual(once, twice)

    def test_order(self):
        for _, seen in self.each_look():
            times = [answer[0][0] for answer in seen]
            self.assertEqual(times, sorted(times))

    def test_order_after_run_until(self):
        for _, network, model in some_networks():
            for time in (1, 5, 40):
                answered = ask(*network, ("begin",), ("run_until", time), ("clock",), ("step", 1))
                if answered[-3] != -28:
                    present, _, planned = answered[-2]
                    self.assertEqual(present, time)
                    self.assertGreaterEqual(answered[-1][0], time + min(planned, 1))

    def test_composition(self):
        for _, network, model in some_networks():
            looks = look_calls(model)
            for parts in [(1, 1), (3, 4), (100, 77), (499, 1)]:
                together = ask(*network, ("begin",), ("step", sum(parts)), *looks, ("step", 9), *looks)
                apart = ask(*network, ("begin",), *[("step", part) for part in parts], *looks, ("step", 9), *looks)
                size = len(looks) * 2 + 1
                self.assertEqual(apart[-size:], together[-size:])
                self.assertEqual(apart[len(network) + 2][0], together[len(network) + 1][0])

    def test_composition_of_times(self):
        for _, network, model in some_networks():
            looks = look_calls(model)
            together = ask(*network, ("begin",), ("run_until", 30), *looks)
            apart = ask(*network, ("begin",), ("run_until", 11), ("step", 1), ("run_until", 30), *looks)
            if together[len(network) + 1] != -28 and apart[-len(looks) - 2][0] <= 30:
                self.assertEqual(apart[-len(looks):], together[-len(looks):])


class Errors(unittest.TestCase):
    WITH_A_RUN = [
        (("create", 1, 0, 1), -22), (("create", 1, 1, 4), -22),
        (("set_station", 4, 1, 0, 0), -2), (("set_station", 0, 0, 0, 0), -22), (("set_station", 0, 3, 2, 0), -22),
        (("set_station", 0, 3, 0, 4), -22),
        (("set_service", 4, 0, 1, 1), -2), (("set_service", 0, 3, 1, 1), -2), (("set_service", 0, 0, 8, 7), -22),
        (("set_source", 3, 0, 1, 1), -2), (("set_source", 0, 4, 1, 1), -2), (("set_source", 0, 0, 0, 7), -22),
        (("set_route", 4, 0, []), -2), (("set_route", 0, 3, []), -2), (("set_route", 0, 0, [1]), -22),
        (("set_route", 0, 0, [5, 5, 5, 5, 5, 5]), -22), (("set_route", 0, 0, [1001, 1001, 1001]), -22),
        (("step", 0), -22), (("step", 501), -22),
        (("run_until", 0), -22), (("run_until", 1000001), -22), (("run_until", LARGEST), -22),
        (("checkpoint", 3), -2), (("restore", 3), -2), (("restore", 2), -33),
        *[((name, 4), -2) for name in STATION_LOOKS], (("class_counts", 3), -2), (("job_info", LARGEST), -2),
        (("compare", 3), -2), (("compare", 2), -33), (("draw", 2, 1, []), -22), (("draw", LARGEST, 0, [1]), -22),
    ]
    WITHOUT_A_RUN = [
        (("step", 1), -6), (("step", 0), -6), (("run_until", 0), -6), (("run_until", LARGEST), -6),
        (("checkpoint", 0), -6), (("checkpoint", 3), -2), (("restore", 0), -33), (("restore", 3), -2),
        (("clock",), -6), (("next_events", 0), -6), (("digest",), -6),
        *[((name, place), -6) for name in (*STATION_LOOKS, "class_counts", "job_info") for place in (0, 4, LARGEST)],
        (("compare", 0), -6), (("compare", 3), -2), (("draw", 2, 1, []), -22),
    ]

    def check(self, before, errors, after):
        """With any of the errors between them, the calls answer what they answer without it."""
        plain = ask(*before, *after)
        for call, code in errors:
            answered = ask(*before, call, *after)
            self.assertEqual(answered[len(before)], code, call)
            self.assertEqual(answered[:len(before)] + answered[len(before) + 1:], plain, call)

    def test_an_error_leaves_a_run_and_its_checkpoints(self):
        for _, network, model in list(some_networks())[:40]:
            looks = look_calls(model)
            after = [
                ("summary",), *looks, ("step", 70), *looks, ("restore", 0), *looks, ("restore", 1), *looks,
                ("begin",), ("step", 9),
            ]
            # Without arrivals the time stays at 0, and run_until at 0 is no error.
            if all(high == 0 for _, _, high in model.source.values()):
                continue
            before = [
                *network, ("begin",), ("step", 20), ("checkpoint", 0), ("step", 20), ("checkpoint", 1), ("step", 9),
            ]
            self.check(before, self.WITH_A_RUN, after)

    def test_an_error_leaves_an_instance_without_a_run(self):
        for _, network, model in list(some_networks())[:40]:
            looks = look_calls(model)
            after = [("summary",), ("restore", 0), ("clock",), ("begin",), ("step", 90), *looks]
            self.check(network, self.WITHOUT_A_RUN, after)

    def test_too_many_events_leave_the_run(self):
        crowded = [
            ("create", 8, 2, 2), ("set_station", 0, 2, 9, 3), ("set_service", 0, 0, 2, 9), ("set_service", 0, 1, 3, 5),
            ("set_source", 0, 0, 1, 2), ("set_source", 1, 0, 1, 1), ("set_route", 0, 0, [1, 1, 1]),
            ("begin",), ("step", 77), ("checkpoint", 1), ("step", 10),
        ]
        looks = all_looks(2, 2)
        after = [*looks, ("step", 60), *looks, ("run_until", 100), *looks, ("restore", 1), *looks, ("restore", 0)]
        errors = [(("run_until", 10000), -28), (("run_until", 1000000), -28)]
        self.check(crowded, errors, after)


if __name__ == "__main__":
    unittest.main()
