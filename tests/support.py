"""What the tests of every call share: whole numbers for limbs, inputs, and the common promises."""

import contextlib
import inspect
import io
import itertools

BASE = 2 ** 64
TOP = BASE - 1
EDGES = (0, 1, 2, 2 ** 63 - 1, 2 ** 63, TOP - 1, TOP)
LENGTHS = range(21)


def whole(limbs):
    """The number that the limbs stand for."""
    return int.from_bytes(b"".join(limb.to_bytes(8, "little") for limb in limbs), "little")


def limit(limbs):
    """W: the first number that as many limbs can't hold."""
    return BASE ** len(limbs)


def told(number, value, like):
    """The list that a call gives back for a number and a value of as many limbs as `like`."""
    row = value.to_bytes(8 * len(like), "little")
    return [number, len(like)] + [int.from_bytes(row[at:at + 8], "little") for at in range(0, len(row), 8)]


def sample_limb(seed):
    """A fixed limb for each seed: one of three at an edge, the others with all their bits mixed."""
    mixed = seed
    for factor in (0xBF58476D1CE4E5B9, 0x94D049BB133111EB):
        mixed = ((mixed ^ (mixed >> 30)) + 0x9E3779B97F4A7C15) * factor % BASE
    mixed ^= mixed >> 31
    return mixed if mixed % 3 else EDGES[mixed // 3 % len(EDGES)]


def sample_lists(how_many, length, seed):
    """Fixed lists of limbs of one length, others for each seed."""
    start = seed * 1000 + length * 1000003
    return [[sample_limb(start + place * how_many + which) for place in range(length)] for which in range(how_many)]


class Guarded(list):
    """A list that refuses every change, so that one that is taken back later shows too."""

    def refuse(self, *args, **kwargs):
        raise AssertionError("a list that was handed in is changed")

    __setitem__ = __delitem__ = __iadd__ = __imul__ = refuse
    append = clear = extend = insert = pop = remove = reverse = sort = refuse


class CallPromises:
    """The promises that hold for each call. A test case says which call, what it is to answer, and of what lists."""

    call = None
    expected = None
    parameters = ()

    def lists_of_call(self):
        return len(self.parameters) - 1

    def assert_answer(self, carry, *lists):
        self.assertEqual(self.call(carry, *lists), self.expected(carry, *lists), (carry, lists))

    def samples(self, seeds):
        for length in LENGTHS:
            for seed in range(seeds):
                for carry in (0, 1):
                    yield carry, sample_lists(self.lists_of_call(), length, seed)

    def test_parameters(self):
        self.assertEqual(tuple(inspect.signature(self.call).parameters), self.parameters)

    def test_arguments_by_name(self):
        for carry, lists in self.samples(2):
            named = dict(zip(self.parameters, [carry] + lists))
            self.assertEqual(self.call(**named), self.expected(carry, *lists))

    def test_every_pair_of_edges_in_one_and_two_limbs(self):
        for length in (1, 2):
            for limbs in itertools.product(EDGES, repeat=length * self.lists_of_call()):
                lists = [list(limbs[start:start + length]) for start in range(0, len(limbs), length)]
                for carry in (0, 1):
                    self.assert_answer(carry, *lists)

    def test_against_whole_numbers_at_each_length(self):
        for carry, lists in self.samples(400):
            self.assert_answer(carry, *lists)

    def test_same_limb_all_through_at_each_length(self):
        for length in LENGTHS:
            for limbs in itertools.product(EDGES, repeat=self.lists_of_call()):
                for carry in (0, 1):
                    self.assert_answer(carry, *[[limb] * length for limb in limbs])

    def test_far_longer_than_calls_may_nest(self):
        for carry in (0, 1):
            self.assert_answer(carry, *sample_lists(self.lists_of_call(), 3000, carry))
            self.assert_answer(carry, *[[TOP] * 3000] * self.lists_of_call())

    def test_lists_are_not_changed(self):
        for carry, lists in self.samples(5):
            kept = [list(limbs) for limbs in lists]
            self.call(carry, *lists)
            self.assertEqual(lists, kept)

    def test_lists_are_not_changed_for_a_while(self):
        for carry, lists in self.samples(5):
            guarded = [Guarded(limbs) for limbs in lists]
            self.assertEqual(self.call(carry, *guarded), self.expected(carry, *lists))

    def test_gives_back_a_new_list(self):
        for carry, lists in self.samples(5):
            answer = self.call(carry, *lists)
            self.assertIs(type(answer), list)
            self.assertIsNot(answer, self.call(carry, *lists))
            for limbs in lists:
                self.assertIsNot(answer, limbs)

    def test_gives_back_ints_alone(self):
        for carry, lists in self.samples(20):
            for number in self.call(carry, *lists):
                self.assertIs(type(number), int)

    def test_twice_gives_the_same(self):
        for carry, lists in self.samples(5):
            first = self.call(carry, *lists)
            kept = list(first)
            first.append(7)
            first[0] = 5
            self.call(1 - carry, *[[TOP] * 3 for which in lists])
            self.assertEqual(self.call(carry, *lists), kept)

    def test_prints_nothing(self):
        out = io.StringIO()
        with contextlib.redirect_stdout(out), contextlib.redirect_stderr(out):
            for carry, lists in self.samples(2):
                self.call(carry, *lists)
        self.assertEqual(out.getvalue(), "")


class CarriedFromTheLowest:
    """The carry out of the lower limbs is handed to the higher ones, wherever a number is cut in two."""

    def test_cut_in_two(self):
        for carry, lists in self.samples(3):
            length = len(lists[0])
            for cut in range(length + 1):
                lower = self.call(carry, *[limbs[:cut] for limbs in lists])
                higher = self.call(lower[0], *[limbs[cut:] for limbs in lists])
                joined = [higher[0], length] + lower[2:] + higher[2:]
                self.assertEqual(self.call(carry, *lists), joined)


class TwoListsOfOneLength:
    """Lists of two lengths are not a call: no answer may be made up for them."""

    def test_lists_of_two_lengths(self):
        for a, b in (([], [1]), ([1], []), ([1, 2], [3]), ([3], [1, 2])):
            with self.assertRaises(Exception):
                self.call(0, a, b)
