import unittest

from flaglong.limbs import sub
from tests.support import TOP, CallPromises, CarriedFromTheLowest, TwoListsOfOneLength, limit, told, whole


def expected_difference(carry, a, b):
    below = whole(a) < whole(b) + carry
    return told(1 if below else 0, (whole(a) - whole(b) - carry) % limit(a), a)


class SubTest(CallPromises, CarriedFromTheLowest, TwoListsOfOneLength, unittest.TestCase):
    call = staticmethod(sub)
    expected = staticmethod(expected_difference)
    parameters = ("carry", "a", "b")

    def test_ordinary(self):
        self.assertEqual(sub(0, [5], [3]), [0, 1, 2])
        self.assertEqual(sub(1, [9, 30], [3, 20]), [0, 2, 5, 10])

    def test_no_limbs(self):
        self.assertEqual(sub(0, [], []), [0, 0])
        self.assertEqual(sub(1, [], []), [1, 0])

    def test_one_limb(self):
        self.assertEqual(sub(0, [0], [0]), [0, 1, 0])
        self.assertEqual(sub(0, [TOP], [0]), [0, 1, TOP])
        self.assertEqual(sub(0, [0], [TOP]), [1, 1, 1])
        self.assertEqual(sub(1, [0], [TOP]), [1, 1, 0])

    def test_twenty_limbs(self):
        self.assertEqual(sub(0, [3] * 20, [2] * 20), [0, 20] + [1] * 20)
        self.assertEqual(sub(0, [0] * 20, [TOP] * 20), [1, 20, 1] + [0] * 19)

    def test_borrow_from_the_next_limb(self):
        self.assertEqual(sub(0, [0, 5], [1, 2]), [0, 2, TOP, 2])
        self.assertEqual(sub(0, [5, 0], [2, 1]), [1, 2, 3, TOP])

    def test_borrow_through_all_limbs(self):
        for length in range(1, 21):
            zeros = [0] * length
            full = [TOP] * length
            self.assertEqual(sub(1, zeros, zeros), [1, length] + full)
            self.assertEqual(sub(0, zeros, [1] + zeros[1:]), [1, length] + full)
            self.assertEqual(sub(0, zeros + [1], [1] + zeros), [0, length + 1] + full + [0])

    def test_differences_about_zero(self):
        for length in range(1, 21):
            zeros = [0] * length
            lower = [6] * length
            higher = [7] + lower[1:]
            self.assertEqual(sub(0, higher, higher), [0, length] + zeros)
            self.assertEqual(sub(1, higher, lower), [0, length] + zeros)
            self.assertEqual(sub(0, higher, lower), [0, length, 1] + zeros[1:])
            self.assertEqual(sub(0, lower, higher), [1, length] + [TOP] * length)
            self.assertEqual(sub(1, lower, higher), [1, length, TOP - 1] + [TOP] * (length - 1))

    def test_equal_lists_with_carry(self):
        for limb in (0, 1, TOP):
            for length in range(1, 21):
                self.assertEqual(sub(1, [limb] * length, [limb] * length), [1, length] + [TOP] * length)

    def test_same_list_twice(self):
        same = [TOP, 7, TOP]
        self.assertEqual(sub(0, same, same), [0, 3, 0, 0, 0])
        self.assertEqual(sub(1, same, same), [1, 3, TOP, TOP, TOP])
        self.assertEqual(same, [TOP, 7, TOP])


if __name__ == "__main__":
    unittest.main()
