import unittest

from helping import MILLION, TOP, age, begin, count, counts, last_told, sample, told


def bucket(*times):
    """A house whose one bucket is of samples at these times, from 0 to 19."""
    return [begin(20, 100, 0, 1000, 2000)] + [sample(time, 1) for time in times] + [age(20)]


class Refusals(unittest.TestCase):
    def test_c_is_not_above_a(self):
        self.assertEqual(
            told(count(5, 5), count(5, 4), count(0, 0), count(TOP, TOP), count(TOP, 0), count(5, 6)),
            [[-1], [-1], [-1], [-1], [-1], [0, 0]],
        )

    def test_a_is_less_than_e2(self):
        self.assertEqual(
            told(age(6120), count(119, 130), count(0, TOP), count(120, 130), count(120, 121))[1:],
            [[-3], [-3], [0, 0], [0, 0]],
        )

    def test_the_one_told_first(self):
        self.assertEqual(told(age(6120), count(119, 119), count(5, 3), count(0, 0))[1:], [[-1], [-1], [-1]])

    def test_all_is_as_it_was(self):
        house = [sample(5, 1), sample(15, 1), age(110)]
        behind = [count(0, 20), age(0), sample(15, 1), sample(9, 1)]
        self.assertEqual(told(*house, count(3, 3), count(9, 0), *behind)[5:], told(*house, *behind)[3:])

    def test_asking_changes_nothing(self):
        house = bucket(2, 5, 11)
        self.assertEqual(told(*house, count(3, 9), count(0, 9), count(3, 9), age(20))[5:],
                         [[0, 1], [1, 2], [0, 1], [0, 1, 0]])


class Numbers(unittest.TestCase):
    def test_up_to_the_largest(self):
        self.assertEqual(
            told(sample(MILLION, 1), count(0, TOP), count(MILLION, TOP), count(MILLION + 1, TOP), count(TOP - 1, TOP)),
            [[1], [1, 1], [1, 1], [0, 0], [0, 0]],
        )

    def test_nothing_kept(self):
        self.assertEqual(told(count(0, 1), count(0, TOP)), [[0, 0], [0, 0]])


class Samples(unittest.TestCase):
    def test_from_a_to_ahead_of_c(self):
        calls = [sample(5, 1), sample(7, 2)]
        for (a, c), found in (
            ((5, 6), 1), ((4, 5), 0), ((6, 7), 0), ((5, 7), 1), ((5, 8), 2), ((6, 8), 1), ((8, 9), 0), ((0, 100), 2),
        ):
            self.assertEqual(last_told(*calls, count(a, c)), [found, found], (a, c))


class OneBucket(unittest.TestCase):
    def hold(self, times, expected):
        house = bucket(*times)
        self.assertEqual(told(*house)[-1], [0, 1, 0])
        for (a, c), found in expected.items():
            self.assertEqual(last_told(*house, count(a, c)), found, (times, a, c))

    def test_of_one(self):
        self.hold((7,), {
            (0, 20): [1, 1], (7, 8): [1, 1], (0, 7): [0, 0], (8, 20): [0, 0], (0, 8): [1, 1], (7, 20): [1, 1],
        })

    def test_of_two(self):
        self.hold((4, 9), {
            (0, 20): [2, 2], (4, 10): [2, 2], (4, 9): [1, 1], (5, 10): [1, 1], (5, 9): [0, 0], (4, 5): [1, 1],
            (9, 10): [1, 1], (0, 4): [0, 0], (10, 20): [0, 0], (0, 5): [1, 1], (9, 20): [1, 1],
        })

    def test_of_two_side_by_side(self):
        self.hold((4, 5), {(4, 6): [2, 2], (4, 5): [1, 1], (5, 6): [1, 1], (0, 4): [0, 0], (6, 20): [0, 0]})

    def test_of_many_wholly(self):
        self.hold((2, 5, 6, 12), {(0, 20): [4, 4], (2, 13): [4, 4], (0, 13): [4, 4], (2, TOP): [4, 4]})

    def test_of_many_in_part(self):
        # First 2, last 12, two others somewhere from 3 to 11.
        self.hold((2, 5, 6, 12), {
            (0, 8): [1, 3], (2, 3): [1, 1], (2, 4): [1, 2], (2, 5): [1, 3], (2, 10): [1, 3], (2, 11): [2, 3],
            (2, 12): [3, 3], (3, 13): [3, 3], (4, 13): [2, 3], (5, 13): [1, 3], (11, 13): [1, 2], (12, 13): [1, 1],
            (12, 20): [1, 1], (0, 3): [1, 1],
        })

    def test_of_many_between(self):
        self.hold((2, 5, 6, 12), {
            (3, 12): [2, 2], (3, 11): [1, 2], (4, 12): [1, 2], (4, 11): [0, 2], (7, 8): [0, 1], (7, 9): [0, 2],
            (5, 6): [0, 1],
        })

    def test_of_many_not_at_all(self):
        self.hold((2, 5, 6, 12), {(0, 2): [0, 0], (13, 20): [0, 0], (1, 2): [0, 0], (13, TOP): [0, 0]})

    def test_crowded(self):
        # First 3, last 9, four others at four of the five times from 4 to 8.
        self.hold((3, 4, 5, 7, 8, 9), {
            (4, 5): [0, 1], (4, 6): [1, 2], (4, 7): [2, 3], (3, 7): [3, 4], (5, 9): [3, 4], (6, 10): [3, 4],
            (4, 9): [4, 4], (6, 7): [0, 1],
        })

    def test_a_sample_at_each_time(self):
        times = tuple(range(3, 11))
        self.hold(times, {
            (a, c): [len(range(max(a, 3), min(c, 11)))] * 2 for a in range(0, 20) for c in range(a + 1, 21)
        })

    def test_where_its_stretch_begins_tells_nothing(self):
        # Only the first and the last sample's times are kept: none can lie outside them within the stretch.
        self.hold((8, 9, 11), {(0, 8): [0, 0], (12, 20): [0, 0], (9, 11): [1, 1], (9, 10): [0, 1], (10, 11): [0, 1]})


class SeveralBuckets(unittest.TestCase):
    def setUp(self):
        # Behind age: e0 60, e1 40, e2 20.
        times = (5, 21, 24, 33, 38, 42, 44, 47, 55, 58, 59, 61, 64, 90)
        self.house = [begin(10, 20, 10, 30, 50)] + [sample(time, time) for time in times] + [age(70)]

    def test_what_is_kept(self):
        self.assertEqual(last_told(*self.house), [3, 2, 1])

    def test_added_up(self):
        expected = {
            (20, 100): [13, 13],
            (20, 40): [4, 4],
            (40, 60): [6, 6],
            (60, 100): [3, 3],
            (23, 100): [11, 12],
            (23, 45): [3, 5],
            (20, 57): [8, 9],
            (30, 57): [5, 8],
            (22, 62): [10, 10],
            (30, 62): [8, 10],
            (43, 58): [3, 4],
            (44, 65): [6, 7],
            (58, 62): [2, 3],
            (61, 65): [2, 2],
            (65, 90): [0, 0],
        }
        stretches = list(expected)
        self.assertEqual(dict(zip(stretches, counts(self.house, stretches))), expected)

    def test_what_is_forgotten(self):
        self.assertEqual(told(*self.house, count(19, 100), count(5, 6))[-2:], [[-3], [-3]])

    def test_a_larger_bucket_keeps_no_more_than_a_bucket(self):
        # First 21, last 38: that 24 and 33 came in different stretches of the width is known no longer.
        found = counts(self.house, [(21, 30), (22, 30), (30, 39), (22, 24), (36, 38), (22, 38)])
        self.assertEqual(found, [[1, 3], [0, 2], [1, 3], [0, 2], [0, 2], [2, 2]])

    def test_ahead_of_the_larger_one_more_is_known(self):
        times = (21, 24, 33, 38)
        house = [begin(10, 20, 10, 30, 50)] + [sample(time, 1) for time in times] + [age(50)]
        self.assertEqual(told(*house, count(21, 30), count(22, 34))[5:], [[0, 2, 0], [2, 2], [2, 2]])


if __name__ == "__main__":
    unittest.main()
