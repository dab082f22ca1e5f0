import unittest

from flaglong.limbs import pull, push, right
from tests.support import BASE, TOP, CallPromises, CarriedFromTheHighest, MovedByPlaces, limit, told, whole

HIGH = 2 ** 63


def expected_pull(k, given, a):
    unit = 2 ** (k % 64)
    total = whole(a) + given % unit * limit(a)
    return told(total % unit, total // unit, a)


class PullTest(CallPromises, CarriedFromTheHighest, MovedByPlaces, unittest.TestCase):
    call = staticmethod(pull)
    expected = staticmethod(expected_pull)
    parameters = ("k", "given", "a")

    def test_ordinary(self):
        self.assertEqual(pull(4, 0, [89]), [9, 1, 5])
        self.assertEqual(pull(4, 0, [89, 112]), [9, 2, 5, 7])
        self.assertEqual(pull(8, 0x99, [0x2233445566778877, 0xAABBCCDDEEFF0011]),
                         [0x77, 2, 0x1122334455667788, 0x99AABBCCDDEEFF00])

    def test_one_limb(self):
        self.assertEqual(pull(63, 0, [0]), [0, 1, 0])
        self.assertEqual(pull(63, TOP, [0]), [0, 1, TOP - 1])
        self.assertEqual(pull(1, 0, [TOP]), [1, 1, HIGH - 1])
        self.assertEqual(pull(63, 0, [TOP]), [HIGH - 1, 1, 1])
        self.assertEqual(pull(63, TOP, [TOP]), [HIGH - 1, 1, TOP])
        self.assertEqual(pull(63, 0, [HIGH]), [0, 1, 1])
        self.assertEqual(pull(63, 1, [0]), [0, 1, 2])

    def test_twenty_limbs(self):
        self.assertEqual(pull(2, 0, [12] * 20), [0, 20] + [3] * 20)
        self.assertEqual(pull(4, 5, [0] * 20), [0, 20] + [0] * 19 + [5 * 2 ** 60])
        self.assertEqual(pull(4, 15, [TOP] * 20), [15, 20] + [TOP] * 20)
        self.assertEqual(pull(4, 0, [TOP] * 20), [15, 20] + [TOP] * 19 + [TOP // 16])

    def test_highest_number_of_places(self):
        self.assertEqual(pull(2 ** 32 - 1, 0, [HIGH]), [0, 1, 1])

    def test_only_the_lower_bits_come_in(self):
        self.assertEqual(pull(4, 16, [0]), [0, 1, 0])
        self.assertEqual(pull(4, 31, [0]), [0, 1, 15 * 2 ** 60])
        self.assertEqual(pull(63, HIGH, [0]), [0, 1, 0])
        self.assertEqual(pull(1, HIGH + 1, [0]), [0, 1, HIGH])

    def test_each_bit_goes_to_its_place(self):
        for k in range(64):
            for bit in range(0, 192, 5):
                pulled = pull(k, 0, [2 ** bit // BASE ** place % BASE for place in range(3)])
                self.assertEqual(pulled[0] + whole(pulled[2:]) * 2 ** k, 2 ** bit)

    def test_by_one_is_a_step_right(self):
        for (k, given), (limbs,) in self.samples(10):
            self.assertEqual(pull(1, given, limbs), right(given % 2, limbs))

    def test_takes_back_a_push(self):
        for numbers, (limbs,) in self.samples(100):
            self.assert_taken_back(push, pull, numbers, limbs)

    def test_is_taken_back_by_a_push(self):
        for numbers, (limbs,) in self.samples(100):
            self.assert_taken_back(pull, push, numbers, limbs)

    def test_edge_numbers_are_taken_back(self):
        for numbers in self.edge_numbers():
            for limbs in ([], [0], [TOP], [TOP, 0], [0, TOP], [HIGH] * 20, [TOP] * 20):
                self.assert_taken_back(push, pull, numbers, limbs)
                self.assert_taken_back(pull, push, numbers, limbs)

    def assert_taken_back(self, there, back, numbers, limbs):
        k, given = numbers
        moved = there(k, given, limbs)
        came_in = given % 2 ** (k % 64)
        self.assertEqual(back(k, moved[0], moved[2:]), [came_in, len(limbs)] + limbs, (numbers, limbs))


if __name__ == "__main__":
    unittest.main()
