import unittest

from flaglong.limbs import left, push, times
from tests.support import NUMBER_EDGES, TOP, CallPromises, CarriedFromTheLowest, limit, told, whole

HIGH = 2 ** 63


def expected_product(m, given, a):
    total = whole(a) * m + given
    return told(total // limit(a), total % limit(a), a)


class TimesTest(CallPromises, CarriedFromTheLowest, unittest.TestCase):
    call = staticmethod(times)
    expected = staticmethod(expected_product)
    parameters = ("m", "given", "a")

    def test_ordinary(self):
        self.assertEqual(times(7, 0, [6]), [0, 1, 42])
        self.assertEqual(times(10, 3, [4, 5]), [0, 2, 43, 50])
        self.assertEqual(times(0x100, 0x77, [0x1122334455667788, 0x99AABBCCDDEEFF00]),
                         [0x99, 2, 0x2233445566778877, 0xAABBCCDDEEFF0011])

    def test_no_limbs(self):
        for m in NUMBER_EDGES["m"]:
            for given in (0, 1, TOP):
                self.assertEqual(times(m, given, []), [given, 0])

    def test_one_limb(self):
        self.assertEqual(times(TOP, 0, [0]), [0, 1, 0])
        self.assertEqual(times(TOP, TOP, [0]), [0, 1, TOP])
        self.assertEqual(times(2, 0, [TOP]), [1, 1, TOP - 1])
        self.assertEqual(times(2 ** 32, 0, [2 ** 32]), [1, 1, 0])
        self.assertEqual(times(2 ** 32, 0, [2 ** 32 - 1]), [0, 1, 2 ** 64 - 2 ** 32])
        self.assertEqual(times(HIGH, 0, [3]), [1, 1, HIGH])
        self.assertEqual(times(TOP, 0, [TOP]), [TOP - 1, 1, 1])

    def test_twenty_limbs(self):
        self.assertEqual(times(7, 0, [3] * 20), [0, 20] + [21] * 20)
        self.assertEqual(times(TOP, 5, [0] * 20), [0, 20, 5] + [0] * 19)
        self.assertEqual(times(TOP, 0, [TOP] * 20), [TOP - 1, 20, 1] + [TOP] * 19)

    def test_by_zero_only_what_comes_in_stays(self):
        for length in range(1, 21):
            for given in (0, 1, TOP):
                self.assertEqual(times(0, given, [TOP] * length), [0, length, given] + [0] * (length - 1))

    def test_by_one_nothing_changes(self):
        for numbers, (limbs,) in self.samples(10):
            self.assertEqual(times(1, 0, limbs), [0, len(limbs)] + limbs)

    def test_what_comes_in_is_carried_through_all_limbs(self):
        for length in range(1, 21):
            self.assertEqual(times(1, 1, [TOP] * length), [1, length] + [0] * length)
            self.assertEqual(times(1, TOP, [1] + [TOP] * (length - 1)), [1, length] + [0] * length)

    def test_everything_at_its_highest(self):
        for length in range(21):
            self.assertEqual(times(TOP, TOP, [TOP] * length), [TOP, length] + [0] * length)

    def test_by_two_is_a_step_left(self):
        for numbers, (limbs,) in self.samples(20):
            for carry in (0, 1):
                self.assertEqual(times(2, carry, limbs), left(carry, limbs))

    def test_by_a_power_of_two_is_a_push(self):
        for (m, given), (limbs,) in self.samples(4):
            for k in range(64):
                self.assertEqual(times(2 ** k, given % 2 ** k, limbs), push(k, given, limbs))

    def test_factors_of_every_width(self):
        for (m, given), (limbs,) in self.samples(10):
            for narrower in range(64):
                self.assert_answer((m >> narrower, given), [limbs])
                self.assert_answer((m, given >> narrower), [limbs])


if __name__ == "__main__":
    unittest.main()
