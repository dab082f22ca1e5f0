"""What the tests of every call share: whole numbers for limbs, inputs, and the common promises."""

import contextlib
import inspect
import io
import itertools

BASE = 2 ** 64
TOP = BASE - 1
EDGES = (0, 1, 2, 2 ** 63 - 1, 2 ** 63, TOP - 1, TOP)
LENGTHS = range(21)
BYTE_LENGTHS = (*LENGTHS, 33, 64, 100, 150, 255, 256, 257, 299, 300)
# The numbers that calls take, by their parameters' names: the edges of each, and the first number beyond it.
NUMBER_EDGES = {
    "carry": (0, 1),
    "k": (0, 1, 63, 64, 65, 127, 128, 2 ** 32 - 1),
    "given": (0, 1, 2 ** 63, TOP),
    "m": (0, 1, 2, 3, 2 ** 32, 2 ** 63, TOP),
    "d": (0, 1, 2, 3, 2 ** 32, 2 ** 63, TOP),
    "r": (0, 1, 2, 2 ** 32 - 1, 2 ** 63 - 1, TOP - 1, TOP),
    "minus": (0, 1),
}
NUMBER_LIMITS = {"carry": 2, "k": 2 ** 32, "given": BASE, "m": BASE, "d": BASE, "r": BASE, "minus": 2}


def whole(limbs):
    """The number that the limbs stand for."""
    return int.from_bytes(b"".join(limb.to_bytes(8, "little") for limb in limbs), "little")


def limit(limbs):
    """W: the first number that as many limbs can't hold."""
    return BASE ** len(limbs)


def told(number, value, like):
    """The list that a call gives back for a number and a value of as many limbs as `like`."""
    row = value.to_bytes(8 * len(like), "little")
    return [number, len(like)] + [int.from_bytes(row[at:at + 8], "little") for at in range(0, len(row), 8)]


def sample_limb(seed):
    """A fixed limb for each seed: one of three at an edge, the others with all their bits mixed."""
    mixed = seed
    for factor in (0xBF58476D1CE4E5B9, 0x94D049BB133111EB):
        mixed = ((mixed ^ (mixed >> 30)) + 0x9E3779B97F4A7C15) * factor % BASE
    mixed ^= mixed >> 31
    return mixed if mixed % 3 else EDGES[mixed // 3 % len(EDGES)]


def sample_number(name, seed):
    """A fixed number for each seed, within what a call may take by that name."""
    return sample_limb(seed + sum(name.encode()) * 1000000007) % NUMBER_LIMITS[name]


def sample_lists(how_many, length, seed):
    """Fixed lists of limbs of one length, others for each seed."""
    start = seed * 1000 + length * 1000003
    return [[sample_limb(start + place * how_many + which) for place in range(length)] for which in range(how_many)]


def sample_bytes(length, seed):
    """A fixed list of bytes, another for each seed."""
    limbs, = sample_lists(1, length // 8 + 1, seed * 512 + length)
    return list(b"".join(limb.to_bytes(8, "little") for limb in limbs)[:length])


class Guarded(list):
    """A list that refuses every change, so that one that is taken back later shows too."""

    def refuse(self, *args, **kwargs):
        raise AssertionError("a list that was handed in is changed")

    __setitem__ = __delitem__ = __iadd__ = __imul__ = refuse
    append = clear = extend = insert = pop = remove = reverse = sort = refuse


class EveryCall:
    """The promises that hold for each call. A test case says which call, what it is to answer, and its parameters."""

    call = None
    expected = None
    parameters = ()
    lengths = LENGTHS
    samples_of_a_length = 800
    far_longer = 3000

    def sample_lists(self, length, seed):
        """The lists that a call takes, those of free length of this one."""
        return sample_lists(self.lists_of_call(), length, seed)

    def numbers_of_call(self):
        return [name for name in self.parameters if name in NUMBER_EDGES]

    def lists_of_call(self):
        return len(self.parameters) - len(self.numbers_of_call())

    def edge_numbers(self):
        return itertools.product(*[NUMBER_EDGES[name] for name in self.numbers_of_call()])

    def samples(self, seeds):
        """Numbers and lists for a call, of each length, as many times as there are seeds."""
        for length in self.lengths:
            for seed in range(seeds):
                numbers = [sample_number(name, seed * 512 + length) for name in self.numbers_of_call()]
                yield numbers, self.sample_lists(length, seed)

    def assert_answer(self, numbers, lists):
        self.assertEqual(self.call(*numbers, *lists), self.expected(*numbers, *lists), (numbers, lists))

    def assert_long_answer(self, numbers, lists):
        # assertEqual would lay out how two such lists differ, which can take more than ten minutes.
        self.assertTrue(self.call(*numbers, *lists) == self.expected(*numbers, *lists), numbers)

    def test_parameters(self):
        self.assertEqual(tuple(inspect.signature(self.call).parameters), self.parameters)

    def test_arguments_by_name(self):
        for numbers, lists in self.samples(4):
            named = dict(zip(self.parameters, numbers + lists, strict=True))
            self.assertEqual(self.call(**named), self.expected(*numbers, *lists))

    def test_against_whole_numbers_at_each_length(self):
        for numbers, lists in self.samples(self.samples_of_a_length):
            self.assert_answer(numbers, lists)

    def test_edge_numbers_at_each_length(self):
        for length in self.lengths:
            for seed in range(5):
                lists = self.sample_lists(length, seed)
                for numbers in self.edge_numbers():
                    self.assert_answer(numbers, lists)

    def test_far_longer_than_calls_may_nest(self):
        lists = self.sample_lists(self.far_longer, 0)
        for numbers in self.edge_numbers():
            self.assert_long_answer(numbers, lists)

    def test_lists_are_not_changed(self):
        for numbers, lists in self.samples(10):
            kept = [list(limbs) for limbs in lists]
            self.call(*numbers, *lists)
            self.assertEqual(lists, kept)

    def test_lists_are_not_changed_for_a_while(self):
        for numbers, lists in self.samples(10):
            guarded = [Guarded(limbs) for limbs in lists]
            self.assertEqual(self.call(*numbers, *guarded), self.expected(*numbers, *lists))

    def test_gives_back_a_new_list(self):
        for numbers, lists in self.samples(10):
            answer = self.call(*numbers, *lists)
            self.assertIs(type(answer), list)
            self.assertIsNot(answer, self.call(*numbers, *lists))
            for limbs in lists:
                self.assertIsNot(answer, limbs)

    def test_gives_back_ints_alone(self):
        for numbers, lists in self.samples(40):
            for number in self.call(*numbers, *lists):
                self.assertIs(type(number), int)

    def test_twice_gives_the_same(self):
        others = [NUMBER_EDGES[name][-1] for name in self.numbers_of_call()]
        for numbers, lists in self.samples(10):
            first = self.call(*numbers, *lists)
            kept = list(first)
            first.append(7)
            first[0] = 5
            self.call(*others, *self.sample_lists(3, 99))
            self.assertEqual(self.call(*numbers, *lists), kept)

    def test_prints_nothing(self):
        out = io.StringIO()
        with contextlib.redirect_stdout(out), contextlib.redirect_stderr(out):
            for numbers, lists in self.samples(4):
                self.call(*numbers, *lists)
        self.assertEqual(out.getvalue(), "")


class CallPromises(EveryCall):
    """Those of the calls that go through lists of one length, place by place."""

    edges = EDGES

    def test_every_pair_of_edges_in_one_and_two_places(self):
        for length in (1, 2):
            for entries in itertools.product(self.edges, repeat=length * self.lists_of_call()):
                lists = [list(entries[start:start + length]) for start in range(0, len(entries), length)]
                for numbers in self.edge_numbers():
                    self.assert_answer(numbers, lists)

    def test_same_entry_all_through_at_each_length(self):
        for length in self.lengths:
            for entries in itertools.product(self.edges, repeat=self.lists_of_call()):
                for numbers in self.edge_numbers():
                    self.assert_answer(numbers, [[entry] * length for entry in entries])

    def test_highest_entry_far_longer_than_calls_may_nest(self):
        for numbers in self.edge_numbers():
            self.assert_long_answer(numbers, [[self.edges[-1]] * self.far_longer] * self.lists_of_call())


class CarriedOn:
    """What one part of a number answers is handed to the next part, wherever the number is cut in two."""

    def answer_in_parts(self, numbers, lower, higher):
        raise NotImplementedError

    def test_cut_in_two(self):
        for numbers, lists in self.samples(6):
            length = len(lists[0])
            for cut in range(0, length + 1, max(length // 20, 1)):
                lower = [limbs[:cut] for limbs in lists]
                higher = [limbs[cut:] for limbs in lists]
                self.assertEqual(self.call(*numbers, *lists), self.answer_in_parts(numbers, lower, higher))


class CarriedFromTheLowest(CarriedOn):
    """The lower part goes first. The number that is carried is the last one that the call takes."""

    def answer_in_parts(self, numbers, lower, higher):
        first = self.call(*numbers, *lower)
        second = self.call(*numbers[:-1], first[0], *higher)
        return [second[0], first[1] + second[1]] + first[2:] + second[2:]


class CarriedFromTheHighest(CarriedOn):
    """The higher part goes first."""

    def answer_in_parts(self, numbers, lower, higher):
        first = self.call(*numbers, *higher)
        second = self.call(*numbers[:-1], first[0], *lower)
        return [second[0], first[1] + second[1]] + second[2:] + first[2:]


class TwoListsOfOneLength:
    """Lists of two lengths are not a call: no answer may be made up for them."""

    def test_lists_of_two_lengths(self):
        for a, b in (([], [1]), ([1], []), ([1, 2], [3]), ([3], [1, 2])):
            for numbers in self.edge_numbers():
                with self.assertRaises(Exception):
                    self.call(*numbers, a, b)


class MovedByPlaces:
    """Bits move by k places, k counted modulo 64, and as many of the lowest bits of `given` come in."""

    def test_no_limbs(self):
        for given in (0, 1, TOP):
            for k in (0, 64, 128):
                self.assertEqual(self.call(k, given, []), [0, 0])
        for k in (5, 69, 2 ** 32 - 59):
            self.assertEqual(self.call(k, 0, []), [0, 0])
            self.assertEqual(self.call(k, 1, []), [1, 0])
            self.assertEqual(self.call(k, TOP, []), [31, 0])
        self.assertEqual(self.call(63, TOP, []), [2 ** 63 - 1, 0])
        self.assertEqual(self.call(65, TOP, []), [1, 0])

    def test_nothing_comes_in_or_goes_out_at_no_places(self):
        for k in (0, 64, 128, 2 ** 32 - 64):
            for given in NUMBER_EDGES["given"]:
                for limbs in ([], [0], [TOP], [1, TOP, 2 ** 63], [TOP] * 20):
                    self.assertEqual(self.call(k, given, limbs), [0, len(limbs)] + limbs)

    def test_places_count_modulo_64(self):
        given = 0x123456789ABCDEF0
        limbs = [TOP, 3, 2 ** 63]
        for places in range(64):
            for k in (places + 64, places + 128, places + 2 ** 32 - 64):
                self.assertEqual(self.call(k, given, limbs), self.call(places, given, limbs))
