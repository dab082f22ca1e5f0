import unittest

from flaglong.limbs import left
from tests.support import TOP, CallPromises, CarriedFromTheLowest, limit, told, whole

HIGH = 2 ** 63


def expected_step_left(carry, a):
    total = 2 * whole(a) + carry
    return told(total // limit(a), total % limit(a), a)


class LeftTest(CallPromises, CarriedFromTheLowest, unittest.TestCase):
    call = staticmethod(left)
    expected = staticmethod(expected_step_left)
    parameters = ("carry", "a")

    def test_ordinary(self):
        self.assertEqual(left(0, [5]), [0, 1, 10])
        self.assertEqual(left(1, [5, 7]), [0, 2, 11, 14])

    def test_no_limbs(self):
        self.assertEqual(left(0, []), [0, 0])
        self.assertEqual(left(1, []), [1, 0])

    def test_one_limb(self):
        self.assertEqual(left(0, [0]), [0, 1, 0])
        self.assertEqual(left(1, [0]), [0, 1, 1])
        self.assertEqual(left(0, [1]), [0, 1, 2])
        self.assertEqual(left(1, [1]), [0, 1, 3])
        self.assertEqual(left(0, [HIGH - 1]), [0, 1, TOP - 1])
        self.assertEqual(left(0, [HIGH]), [1, 1, 0])
        self.assertEqual(left(1, [HIGH]), [1, 1, 1])
        self.assertEqual(left(0, [TOP]), [1, 1, TOP - 1])
        self.assertEqual(left(1, [TOP]), [1, 1, TOP])

    def test_twenty_limbs(self):
        self.assertEqual(left(0, [3] * 20), [0, 20] + [6] * 20)
        self.assertEqual(left(0, [HIGH] * 20), [1, 20, 0] + [1] * 19)
        self.assertEqual(left(1, [TOP] * 20), [1, 20] + [TOP] * 20)

    def test_bit_into_the_next_limb(self):
        self.assertEqual(left(0, [HIGH, 0]), [0, 2, 0, 1])
        self.assertEqual(left(0, [0, HIGH]), [1, 2, 0, 0])
        self.assertEqual(left(1, [HIGH, HIGH, 0]), [0, 3, 1, 1, 1])

    def test_a_bit_at_each_limb_goes_to_the_next_alone(self):
        for place in range(19):
            limbs = [0] * 20
            limbs[place] = HIGH
            stepped = [0] * 20
            stepped[place + 1] = 1
            self.assertEqual(left(0, limbs), [0, 20] + stepped)


if __name__ == "__main__":
    unittest.main()
