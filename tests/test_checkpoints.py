"""checkpoint and restore: what they save, bring back and refuse."""

import unittest

from tests.calling import BUSY, LARGEST, all_looks, ask, ask_last

LOOK = (("clock",), ("station_counts", 0), ("station_counts", 1))
GO_ON = tuple(call for count in (1, 2, 40, 1, 100) for call in (("step", count), *LOOK))


class Checkpoint(unittest.TestCase):
    def test_every_slot(self):
        answered = ask(*BUSY, *[("checkpoint", slot) for slot in range(3)])
        self.assertEqual(answered[-3:], [0, 0, 0])

    def test_no_such_checkpoint(self):
        for slot in (3, 4, LARGEST):
            self.assertEqual(ask_last(*BUSY, ("checkpoint", slot)), -2)

    def test_without_a_run(self):
        for slot in range(3):
            self.assertEqual(ask(("create", 1, 1, 1), ("checkpoint", slot), ("restore", slot))[1:], [-6, -33])

    def test_the_checkpoint_is_asked_for_ahead_of_the_run(self):
        for slot in (3, LARGEST):
            self.assertEqual(ask_last(("create", 1, 1, 1), ("checkpoint", slot)), -2)

    def test_the_run_goes_on_as_if_nothing_had_been_saved(self):
        plain = ask(*BUSY, ("step", 50), *GO_ON)
        saved = ask(*BUSY, ("step", 50), ("checkpoint", 1), *GO_ON)
        self.assertEqual(saved[-len(GO_ON):], plain[-len(GO_ON):])

    def test_a_former_content_is_replaced(self):
        answered = ask(
            *BUSY, ("step", 10), ("checkpoint", 0), ("step", 30), ("checkpoint", 0), *LOOK,
            ("step", 30), ("restore", 0), *LOOK,
        )
        self.assertEqual(answered[-3:], answered[-8:-5])
        self.assertEqual(answered[-3][1], 40)

    def test_a_checkpoint_that_is_refused_keeps_the_former_content(self):
        answered = ask(
            *BUSY, ("step", 10), ("checkpoint", 2), *LOOK, ("step", 5), ("checkpoint", 3), ("restore", 2), *LOOK,
        )
        self.assertEqual(answered[-3:], answered[-9:-6])

    def test_each_slot_has_a_content_of_its_own(self):
        answered = ask(
            *BUSY, *[call for slot in (2, 0, 1) for call in (("step", 25), ("checkpoint", slot), *LOOK)],
            *[call for slot in (1, 2, 0) for call in (("restore", slot), *LOOK)],
        )
        saved = [answered[place:place + 3] for place in (-25, -20, -15)]
        restored = [answered[-12:][place:place + 3] for place in (1, 5, 9)]
        self.assertEqual(restored, [saved[2], saved[0], saved[1]])
        self.assertEqual([look[0][1] for look in saved], [25, 50, 75])


class Restore(unittest.TestCase):
    def test_the_time_is_answered(self):
        answered = ask(*BUSY, ("run_until", 123), ("checkpoint", 1), ("run_until", 200), ("restore", 1), ("clock",))
        self.assertEqual(answered[-2], 123)
        self.assertEqual(answered[-1][0], 123)
        self.assertEqual(ask(*BUSY, ("checkpoint", 0), ("step", 9), ("restore", 0))[-1], 0)

    def test_no_such_checkpoint(self):
        for slot in (3, 4, LARGEST):
            self.assertEqual(ask_last(*BUSY, ("restore", slot)), -2)
            self.assertEqual(ask_last(("create", 1, 1, 1), ("restore", slot)), -2)

    def test_a_checkpoint_that_contains_nothing(self):
        for slot in range(3):
            self.assertEqual(ask_last(*BUSY, ("restore", slot)), -33)
            others = [("checkpoint", other) for other in range(3) if other != slot]
            self.assertEqual(ask(*BUSY, *others, ("restore", slot), ("clock",))[-2:], [-33, (0, 0, 2)])

    def test_without_a_run_it_is_no_error_that_there_is_none(self):
        self.assertEqual(ask_last(("create", 1, 1, 1), ("restore", 0)), -33)

    def test_a_restored_run_goes_on_as_the_saved_one_did(self):
        for count in (1, 7, 50, 200):
            answered = ask(*BUSY, ("step", count), ("checkpoint", 0), *GO_ON, ("restore", 0), *GO_ON)
            self.assertEqual(answered[-len(GO_ON):], answered[-2 * len(GO_ON) - 1:-len(GO_ON) - 1])

    def test_it_goes_on_so_with_run_until_too(self):
        later = [call for time in (60, 61, 300, 777) for call in (("run_until", time), *LOOK)]
        answered = ask(*BUSY, ("run_until", 50), ("checkpoint", 0), *later, ("restore", 0), *later)
        self.assertEqual(answered[-len(later):], answered[-2 * len(later) - 1:-len(later) - 1])

    def test_the_checkpoint_stays_as_it_was_while_the_restored_run_goes_on(self):
        again = (("restore", 1), *GO_ON)
        answered = ask(*BUSY, ("step", 60), ("checkpoint", 1), *again, *again, *again)
        first, second, third = [answered[-place * len(again):][:len(again)] for place in (3, 2, 1)]
        self.assertEqual(first, second)
        self.assertEqual(second, third)

    def test_a_run_saved_from_a_restored_one(self):
        answered = ask(
            *BUSY, ("step", 60), ("checkpoint", 0), ("restore", 0), ("step", 5), ("checkpoint", 1), *GO_ON,
            ("restore", 1), *GO_ON, ("restore", 0), ("step", 5), *GO_ON,
        )
        first = answered[-3 * len(GO_ON) - 3:-2 * len(GO_ON) - 3]
        self.assertEqual(answered[-2 * len(GO_ON) - 2:-len(GO_ON) - 2], first)
        self.assertEqual(answered[-len(GO_ON):], first)

    def test_it_leaves_the_other_checkpoints(self):
        answered = ask(
            *BUSY, ("step", 5), ("checkpoint", 0), ("step", 5), ("checkpoint", 1),
            ("restore", 0), ("step", 2), ("restore", 1), ("clock",), ("restore", 0), ("clock",),
        )
        self.assertEqual([answered[-3][1], answered[-1][1]], [10, 5])

    def test_a_new_run_can_be_left_for_a_saved_one(self):
        answered = ask(*BUSY, ("step", 33), ("checkpoint", 0), *LOOK, ("begin",), ("step", 3), ("restore", 0), *LOOK)
        self.assertEqual(answered[-3:], answered[-9:-6])


class AllThatIsSaved(unittest.TestCase):
    """Areas, sojourns, classes, customers and planned events too."""

    LOOK = all_looks(2, 2, range(0, 60, 3))
    GO_ON = [call for count in (1, 2, 40, 1, 100) for call in (("step", count), *LOOK)]

    def test_a_restored_run_shows_what_the_saved_one_did(self):
        for count in (1, 7, 50, 200):
            answered = ask(
                *BUSY, ("step", count), ("checkpoint", 0), *self.LOOK, ("step", 30), ("restore", 0), *self.LOOK,
            )
            size = len(self.LOOK)
            self.assertEqual(answered[-size:], answered[-2 * size - 2:-size - 2])

    def test_a_restored_run_goes_on_as_the_saved_one_did(self):
        for count in (1, 7, 50, 200):
            answered = ask(*BUSY, ("step", count), ("checkpoint", 0), *self.GO_ON, ("restore", 0), *self.GO_ON)
            size = len(self.GO_ON)
            self.assertEqual(answered[-size:], answered[-2 * size - 1:-size - 1])

    def test_it_goes_on_so_with_run_until_too(self):
        later = [call for time in (60, 61, 300, 777) for call in (("run_until", time), *self.LOOK)]
        answered = ask(*BUSY, ("run_until", 50), ("checkpoint", 0), *later, ("restore", 0), *later)
        self.assertEqual(answered[-len(later):], answered[-2 * len(later) - 1:-len(later) - 1])

    def test_neither_run_changes_the_checkpoint(self):
        looks = [("restore", 1), *self.LOOK]
        answered = ask(
            *BUSY, ("step", 60), ("checkpoint", 1), *looks, ("step", 100), *looks, ("run_until", 900), *looks,
        )
        size = len(looks)
        first, second, third = [answered[-end:][:size] for end in (3 * size + 2, 2 * size + 1, size)]
        self.assertEqual(first, second)
        self.assertEqual(second, third)


if __name__ == "__main__":
    unittest.main()
