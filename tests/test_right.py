import unittest

from flaglong.limbs import left, right
from tests.support import TOP, CallPromises, CarriedFromTheHighest, limit, told, whole

HIGH = 2 ** 63


def expected_step_right(carry, a):
    total = whole(a) + carry * limit(a)
    return told(total % 2, total // 2, a)


class RightTest(CallPromises, CarriedFromTheHighest, unittest.TestCase):
    call = staticmethod(right)
    expected = staticmethod(expected_step_right)
    parameters = ("carry", "a")

    def test_ordinary(self):
        self.assertEqual(right(0, [10]), [0, 1, 5])
        self.assertEqual(right(0, [11, 14]), [1, 2, 5, 7])

    def test_no_limbs(self):
        self.assertEqual(right(0, []), [0, 0])
        self.assertEqual(right(1, []), [1, 0])

    def test_one_limb(self):
        self.assertEqual(right(0, [0]), [0, 1, 0])
        self.assertEqual(right(1, [0]), [0, 1, HIGH])
        self.assertEqual(right(0, [1]), [1, 1, 0])
        self.assertEqual(right(1, [1]), [1, 1, HIGH])
        self.assertEqual(right(0, [HIGH]), [0, 1, HIGH // 2])
        self.assertEqual(right(1, [HIGH]), [0, 1, HIGH + HIGH // 2])
        self.assertEqual(right(0, [TOP]), [1, 1, HIGH - 1])
        self.assertEqual(right(1, [TOP]), [1, 1, TOP])

    def test_twenty_limbs(self):
        self.assertEqual(right(0, [6] * 20), [0, 20] + [3] * 20)
        self.assertEqual(right(0, [1] * 20), [1, 20] + [HIGH] * 19 + [0])
        self.assertEqual(right(1, [TOP] * 20), [1, 20] + [TOP] * 20)

    def test_bit_into_the_next_limb(self):
        self.assertEqual(right(0, [0, 1]), [0, 2, HIGH, 0])
        self.assertEqual(right(0, [1, 0]), [1, 2, 0, 0])
        self.assertEqual(right(1, [0, 1, 1]), [0, 3, HIGH, HIGH, HIGH])

    def test_a_bit_at_each_limb_goes_to_the_next_alone(self):
        for place in range(1, 20):
            limbs = [0] * 20
            limbs[place] = 1
            stepped = [0] * 20
            stepped[place - 1] = HIGH
            self.assertEqual(right(0, limbs), [0, 20] + stepped)

    def test_takes_back_a_step_left(self):
        for (carry,), (limbs,) in self.samples(20):
            stepped = left(carry, limbs)
            self.assertEqual(right(stepped[0], stepped[2:]), [carry, len(limbs)] + limbs)


if __name__ == "__main__":
    unittest.main()
