import unittest

from helping import MILLION, TOP, age, begin, buckets, edges, last_told, most, mosts, sample, samples_calls, told


def bucket(samples):
    """A house whose one bucket is of these samples, at times from 0 to 19."""
    return [begin(20, 100, 0, 1000, 2000)] + samples_calls(samples) + [age(20)]


class Refusals(unittest.TestCase):
    def test_c_is_not_above_a(self):
        self.assertEqual(
            told(sample(5, 4), most(5, 5), most(5, 4), most(0, 0), most(TOP, TOP), most(TOP, 0), most(5, 6)),
            [[1], [-1], [-1], [-1], [-1], [-1], [4]],
        )

    def test_a_is_less_than_e2(self):
        self.assertEqual(
            told(age(6120), sample(6100, 3), most(119, TOP), most(0, TOP), most(120, TOP))[2:], [[-3], [-3], [3]]
        )

    def test_there_can_not_be_any(self):
        self.assertEqual(
            told(most(0, TOP), sample(5, 0), most(0, 5), most(6, 9), most(MILLION, TOP), most(TOP - 1, TOP), most(5, 6)),
            [[-4], [1], [-4], [-4], [-4], [-4], [0]],
        )

    def test_the_one_told_first(self):
        # Nothing is kept, so that -4 would hold of each; and a is less than e2.
        self.assertEqual(
            told(age(6120), most(119, 119), most(5, 3), most(119, 130), most(0, 1), most(120, 120), most(120, 121))[1:],
            [[-1], [-1], [-3], [-3], [-1], [-4]],
        )

    def test_all_is_as_it_was(self):
        house = [sample(5, 1), sample(135, 2), sample(158, 7), age(6060), sample(5990, 3), age(6120)]
        behind = [edges(), buckets(0), buckets(1), most(120, TOP), age(0), sample(6019, 1), sample(6020, 1), age(6180)]
        as_it_was = told(*house, *behind)[6:]
        for refused, number in ((most(200, 200), -1), (most(9, 0), -1), (most(119, 200), -3), (most(120, 135), -4)):
            self.assertEqual(told(*house, refused, *behind)[6:], [[number]] + as_it_was, refused)

    def test_asking_changes_nothing(self):
        house = bucket([(2, 4), (5, 1), (11, 6)])
        behind = [edges(), buckets(0), buckets(1), age(20), most(3, 9)]
        self.assertEqual(told(*house, most(3, 9), most(0, 9), *behind)[7:], told(*house, *behind)[5:])


class Samples(unittest.TestCase):
    def test_from_a_to_ahead_of_c(self):
        calls = [sample(5, 3), sample(7, 2)]
        for (a, c), found in (
            ((5, 6), 3), ((4, 5), -4), ((6, 7), -4), ((5, 7), 3), ((5, 8), 3), ((6, 8), 2), ((8, 9), -4), ((0, 100), 3),
        ):
            self.assertEqual(last_told(*calls, most(a, c)), [found], (a, c))

    def test_up_to_the_largest(self):
        self.assertEqual(
            told(sample(MILLION, MILLION), most(0, TOP), most(MILLION, TOP), most(MILLION + 1, TOP), most(0, MILLION)),
            [[1], [MILLION], [MILLION], [-4], [-4]],
        )


class OneBucket(unittest.TestCase):
    def hold(self, samples, expected):
        house = bucket(samples)
        self.assertEqual(last_told(*house), [0, 1, 0])
        found = mosts(house, list(expected))
        self.assertEqual({key: number for key, (number,) in zip(expected, found)}, expected, samples)

    def test_of_one(self):
        self.hold([(7, 9)], {(0, 20): 9, (7, 8): 9, (0, 7): -4, (8, 20): -4})

    def test_of_two(self):
        # Any of them may be the greatest, but none lies between.
        expected = {(0, 20): 8, (4, 5): 8, (9, 10): 8, (5, 9): -4, (6, 8): -4, (0, 4): -4, (10, 20): -4, (5, 10): 8}
        self.hold([(4, 2), (9, 8)], expected)
        self.hold([(4, 8), (9, 2)], expected)

    def test_of_more(self):
        expected = {(0, 20): 10, (2, 3): 10, (12, 13): 10, (3, 4): 10, (7, 8): 10, (11, 12): 10, (0, 2): -4, (13, 20): -4}
        self.hold([(2, 10), (5, 3), (12, 5)], expected)
        self.hold([(2, 3), (5, 4), (6, 3), (12, 10)], expected)

    def test_that_are_0(self):
        self.hold([(2, 0), (5, 0), (12, 0)], {(0, 20): 0, (2, 3): 0, (7, 8): 0, (0, 2): -4, (13, 20): -4})


class SeveralBuckets(unittest.TestCase):
    def setUp(self):
        # Behind age: e0 60, e1 40, e2 20.
        samples = [(5, 99), (21, 30), (24, 7), (38, 8), (42, 20), (47, 5), (55, 1), (59, 25), (61, 24), (64, 50)]
        self.house = [begin(10, 20, 10, 30, 50)] + samples_calls(samples) + [age(70)]

    def test_what_is_kept(self):
        self.assertEqual(last_told(*self.house), [2, 2, 1])

    def test_the_greatest_of_all_that_may_lie_there(self):
        expected = {
            (20, 100): [50], (20, 64): [30], (39, 64): [25], (39, 55): [20], (43, 55): [20], (43, 47): [-4],
            (48, 55): [-4], (39, 42): [-4], (25, 64): [30], (37, 38): [30], (48, 56): [25], (56, 59): [-4],
            (60, 64): [24], (62, 64): [-4], (62, 65): [50], (65, TOP): [-4], (43, 64): [25], (56, 62): [25],
        }
        self.assertEqual(dict(zip(expected, mosts(self.house, list(expected)))), expected)

    def test_what_is_forgotten(self):
        self.assertEqual(told(*self.house, most(19, 100), most(5, 6))[-2:], [[-3], [-3]])


if __name__ == "__main__":
    unittest.main()
