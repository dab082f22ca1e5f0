import unittest

from flaglong.limbs import left, push
from tests.support import BASE, TOP, CallPromises, CarriedFromTheLowest, MovedByPlaces, limit, told, whole

HIGH = 2 ** 63


def expected_push(k, given, a):
    unit = 2 ** (k % 64)
    total = whole(a) * unit + given % unit
    return told(total // limit(a), total % limit(a), a)


class PushTest(CallPromises, CarriedFromTheLowest, MovedByPlaces, unittest.TestCase):
    call = staticmethod(push)
    expected = staticmethod(expected_push)
    parameters = ("k", "given", "a")

    def test_ordinary(self):
        self.assertEqual(push(4, 0, [5]), [0, 1, 80])
        self.assertEqual(push(4, 9, [5, 7]), [0, 2, 89, 112])
        self.assertEqual(push(8, 0x77, [0x1122334455667788, 0x99AABBCCDDEEFF00]),
                         [0x99, 2, 0x2233445566778877, 0xAABBCCDDEEFF0011])

    def test_one_limb(self):
        self.assertEqual(push(63, 0, [0]), [0, 1, 0])
        self.assertEqual(push(63, TOP, [0]), [0, 1, HIGH - 1])
        self.assertEqual(push(1, 0, [TOP]), [1, 1, TOP - 1])
        self.assertEqual(push(63, 0, [TOP]), [HIGH - 1, 1, HIGH])
        self.assertEqual(push(63, TOP, [TOP]), [HIGH - 1, 1, TOP])
        self.assertEqual(push(63, 0, [1]), [0, 1, HIGH])
        self.assertEqual(push(63, 0, [2]), [1, 1, 0])

    def test_twenty_limbs(self):
        self.assertEqual(push(2, 0, [3] * 20), [0, 20] + [12] * 20)
        self.assertEqual(push(4, 5, [0] * 20), [0, 20, 5] + [0] * 19)
        self.assertEqual(push(4, 15, [TOP] * 20), [15, 20] + [TOP] * 20)
        self.assertEqual(push(4, 0, [TOP] * 20), [15, 20, TOP - 15] + [TOP] * 19)

    def test_highest_number_of_places(self):
        self.assertEqual(push(2 ** 32 - 1, 0, [2]), [1, 1, 0])

    def test_only_the_lower_bits_come_in(self):
        self.assertEqual(push(4, 16, [0]), [0, 1, 0])
        self.assertEqual(push(4, 31, [0]), [0, 1, 15])
        self.assertEqual(push(63, HIGH, [0]), [0, 1, 0])
        self.assertEqual(push(1, HIGH + 1, [0]), [0, 1, 1])

    def test_each_bit_goes_to_its_place(self):
        for k in range(64):
            for bit in range(0, 192, 5):
                pushed = push(k, 0, [2 ** bit // BASE ** place % BASE for place in range(3)])
                self.assertEqual(pushed[0] * BASE ** 3 + whole(pushed[2:]), 2 ** (bit + k))

    def test_by_one_is_a_step_left(self):
        for (k, given), (limbs,) in self.samples(10):
            self.assertEqual(push(1, given, limbs), left(given % 2, limbs))


if __name__ == "__main__":
    unittest.main()
