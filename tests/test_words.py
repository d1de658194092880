"""Random numbers, against known words and against the document's formulas written out."""

import unittest

from tests import reference
from waitworks.words import draw_between, hash_word, mix

GAMMA = 11400714819323198485


class Words(unittest.TestCase):
    def test_mixing_gives_known_words(self):
        for number, word in enumerate([
            6457827717110365317, 3203168211198807973, 9817491932198370423, 4593380528125082431, 16408922859458223821,
        ], 1):
            self.assertEqual(mix((1234567 + number * GAMMA) % 2 ** 64), word)

    def test_mixing_at_the_ends_of_the_words(self):
        self.assertEqual(mix(0), 0)
        self.assertEqual(mix(2 ** 64 - 1), reference.mix(2 ** 64 - 1))
        self.assertTrue(0 <= mix(2 ** 64 - 1) < 2 ** 64)

    def test_hash_of_a_seed_alone(self):
        self.assertEqual(hash_word(0, ()), 0xE220A8397B1DCDAF)

    def test_hash_goes_on_from_value_to_value(self):
        once = mix((hash_word(9, ()) + GAMMA + 5) % 2 ** 64)
        self.assertEqual(hash_word(9, (5,)), once)
        self.assertEqual(hash_word(9, (5, 7)), mix((once + GAMMA + 7) % 2 ** 64))

    def test_hash_of_large_seeds_and_values(self):
        for values in [(0,), (4294967295,), (1, 2, 3), (3, 4294967295, 4294967295)]:
            for seed in (0, 1, 4294967295):
                self.assertEqual(hash_word(seed, values), reference.hashed(seed, *values))

    def test_draw_reaches_both_ends_and_no_further(self):
        self.assertEqual(draw_between(3, 7, 0), 3)
        self.assertEqual(draw_between(3, 7, 2 ** 64 - 1), 7)
        self.assertEqual(draw_between(4, 4, 2 ** 64 - 1), 4)
        self.assertEqual(draw_between(0, 1, 2 ** 63 - 1), 0)
        self.assertEqual(draw_between(0, 1, 2 ** 63), 1)


if __name__ == "__main__":
    unittest.main()
