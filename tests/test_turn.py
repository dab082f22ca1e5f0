import unittest

from flaglong.limbs import left, right, turn
from tests.support import LENGTHS, TOP, CallPromises, limit, sample_lists, told, whole

HIGH = 2 ** 63


def expected_turn(carry, k, a):
    """The document's own words, on the row of the number's digits to the base 2, the highest first."""
    bits = 64 * len(a) + 1
    row = format(whole(a) + carry * limit(a), "b").zfill(bits)
    places = k % bits
    turned = int(row[places:] + row[:places], 2)
    return told(turned // limit(a), turned % limit(a), a)


def edges_of_places(length):
    bits = 64 * length + 1
    about = [bits * turns + places for turns in (0, 1, 2) for places in (-65, -64, -63, -2, -1, 0, 1, 2, 63, 64, 65)]
    return [k for k in about if k >= 0] + [127, 128, 129, 2 ** 32 - 64, 2 ** 32 - 1]


class TurnTest(CallPromises, unittest.TestCase):
    call = staticmethod(turn)
    expected = staticmethod(expected_turn)
    parameters = ("carry", "k", "a")

    def test_ordinary(self):
        self.assertEqual(turn(0, 4, [5]), [0, 1, 80])
        self.assertEqual(turn(1, 4, [5]), [0, 1, 88])
        self.assertEqual(turn(0, 3, [5, HIGH + 7]), [0, 2, 42, 56])
        self.assertEqual(turn(1, 68, [5, 7]), [0, 2, 56, 88])

    def test_no_limbs(self):
        for carry in (0, 1):
            for k in (0, 1, 2, 3, 63, 64, 65, 2 ** 32 - 1):
                self.assertEqual(turn(carry, k, []), [carry, 0])

    def test_one_limb(self):
        self.assertEqual(turn(1, 0, [0]), [1, 1, 0])
        self.assertEqual(turn(1, 1, [0]), [0, 1, 1])
        self.assertEqual(turn(1, 64, [0]), [0, 1, HIGH])
        self.assertEqual(turn(1, 65, [0]), [1, 1, 0])
        self.assertEqual(turn(0, 1, [HIGH]), [1, 1, 0])
        self.assertEqual(turn(0, 63, [1]), [0, 1, HIGH])
        self.assertEqual(turn(0, 64, [1]), [1, 1, 0])
        self.assertEqual(turn(0, 0, [TOP]), [0, 1, TOP])
        self.assertEqual(turn(0, 1, [TOP]), [1, 1, TOP - 1])
        self.assertEqual(turn(0, 63, [TOP]), [1, 1, TOP - HIGH // 2])
        self.assertEqual(turn(0, 64, [TOP]), [1, 1, TOP - HIGH])

    def test_all_bits_the_same(self):
        for length in LENGTHS:
            for k in edges_of_places(length):
                self.assertEqual(turn(0, k, [0] * length), [0, length] + [0] * length)
                self.assertEqual(turn(1, k, [TOP] * length), [1, length] + [TOP] * length)

    def test_twenty_limbs(self):
        self.assertEqual(turn(0, 2, [3] * 20), [0, 20] + [12] * 20)
        self.assertEqual(turn(1, 2, [0] * 20), [0, 20, 2] + [0] * 19)
        self.assertEqual(turn(0, 1280, [1] + [0] * 19), [1, 20] + [0] * 20)
        self.assertEqual(turn(1, 1280, [0] * 20), [0, 20] + [0] * 19 + [HIGH])
        self.assertEqual(turn(0, 1, [TOP] * 20), [1, 20, TOP - 1] + [TOP] * 19)

    def test_by_whole_limbs(self):
        self.assertEqual(turn(0, 64, [6, 9]), [1, 2, 4, 6])
        self.assertEqual(turn(1, 64, [5, 7]), [1, 2, HIGH + 3, 5])
        self.assertEqual(turn(0, 128, [2, 4, 6]), [0, 3, 2, 3, 2])

    def test_no_turn(self):
        for length in LENGTHS:
            bits = 64 * length + 1
            limbs, = sample_lists(1, length, 0)
            for carry in (0, 1):
                for k in (0, bits, 2 * bits, (2 ** 32 - 1) // bits * bits):
                    self.assertEqual(turn(carry, k, limbs), [carry, length] + limbs)

    def test_edges_of_places_at_each_length(self):
        for length in LENGTHS:
            for seed in range(5):
                for carry in (0, 1):
                    for k in edges_of_places(length):
                        self.assert_answer((carry, k), sample_lists(1, length, seed))

    def test_every_place_of_few_limbs(self):
        for length in range(4):
            lists = sample_lists(1, length, 1)
            for carry in (0, 1):
                for k in range(2 * (64 * length + 1) + 1):
                    self.assert_answer((carry, k), lists)

    def test_a_bit_alone_goes_to_its_place(self):
        for length in range(4):
            bits = 64 * length + 1
            for bit in range(0, bits, 8):
                carry, limbs = self.bit_alone(bit, length)
                for k in range(0, bits, 3):
                    turned = turn(carry, k, limbs)
                    self.assertEqual(turned[0] * limit(limbs) + whole(turned[2:]), 2 ** ((bit + k) % bits))

    def bit_alone(self, bit, length):
        zeros = [0] * length
        return 2 ** bit // limit(zeros), told(0, 2 ** bit % limit(zeros), zeros)[2:]

    def test_by_one_is_a_step_left(self):
        for (carry, k), (limbs,) in self.samples(20):
            self.assertEqual(turn(carry, 1, limbs), left(carry, limbs))

    def test_by_all_places_but_one_is_a_step_right(self):
        for (carry, k), (limbs,) in self.samples(20):
            self.assertEqual(turn(carry, 64 * len(limbs), limbs), right(carry, limbs))

    def test_is_taken_back_by_the_other_places(self):
        for (carry, k), (limbs,) in self.samples(20):
            bits = 64 * len(limbs) + 1
            for places in [k] + edges_of_places(len(limbs)):
                turned = turn(carry, places, limbs)
                back = turn(turned[0], bits - places % bits, turned[2:])
                self.assertEqual(back, [carry, len(limbs)] + limbs, (carry, places, limbs))


if __name__ == "__main__":
    unittest.main()
