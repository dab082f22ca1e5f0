import unittest

from flaglong.limbs import add
from tests.support import TOP, CallPromises, CarriedFromTheLowest, TwoListsOfOneLength, limit, told, whole


def expected_sum(carry, a, b):
    total = whole(a) + whole(b) + carry
    return told(1 if total >= limit(a) else 0, total % limit(a), a)


class AddTest(CallPromises, CarriedFromTheLowest, TwoListsOfOneLength, unittest.TestCase):
    call = staticmethod(add)
    expected = staticmethod(expected_sum)
    parameters = ("carry", "a", "b")

    def test_ordinary(self):
        self.assertEqual(add(0, [2], [3]), [0, 1, 5])
        self.assertEqual(add(1, [2, 10], [3, 20]), [0, 2, 6, 30])

    def test_no_limbs(self):
        self.assertEqual(add(0, [], []), [0, 0])
        self.assertEqual(add(1, [], []), [1, 0])

    def test_one_limb(self):
        self.assertEqual(add(0, [0], [0]), [0, 1, 0])
        self.assertEqual(add(1, [0], [0]), [0, 1, 1])
        self.assertEqual(add(0, [TOP], [TOP]), [1, 1, TOP - 1])
        self.assertEqual(add(1, [TOP], [TOP]), [1, 1, TOP])

    def test_twenty_limbs(self):
        self.assertEqual(add(0, [1] * 20, [2] * 20), [0, 20] + [3] * 20)
        self.assertEqual(add(0, [TOP] * 20, [TOP] * 20), [1, 20, TOP - 1] + [TOP] * 19)

    def test_carry_into_the_next_limb(self):
        self.assertEqual(add(0, [TOP, 4], [1, 5]), [0, 2, 0, 10])
        self.assertEqual(add(0, [4, TOP], [5, 1]), [1, 2, 9, 0])

    def test_carry_through_all_limbs(self):
        for length in range(1, 21):
            zeros = [0] * length
            self.assertEqual(add(1, [TOP] * length, zeros), [1, length] + zeros)
            self.assertEqual(add(1, zeros, [TOP] * length), [1, length] + zeros)
            self.assertEqual(add(0, [TOP] * length, [1] + zeros[1:]), [1, length] + zeros)

    def test_sums_about_the_limit(self):
        for length in range(1, 21):
            full = [TOP] * length
            zeros = [0] * length
            self.assertEqual(add(0, full, zeros), [0, length] + full)
            self.assertEqual(add(1, full, zeros), [1, length] + zeros)
            self.assertEqual(add(1, full, [9] + zeros[1:]), [1, length, 9] + zeros[1:])

    def test_same_list_twice(self):
        same = [TOP, 7, TOP]
        self.assertEqual(add(1, same, same), [1, 3, TOP, 15, TOP - 1])
        self.assertEqual(same, [TOP, 7, TOP])


if __name__ == "__main__":
    unittest.main()
