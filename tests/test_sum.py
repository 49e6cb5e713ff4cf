import unittest

from helping import MILLION, TOP, age, begin, buckets, count, edges, last_told, sample, samples_calls, summed, sums, told


def bucket(samples):
    """A house whose one bucket is of these samples, at times from 0 to 19."""
    return [begin(20, 100, 0, 1000, 2000)] + samples_calls(samples) + [age(20)]


class Refusals(unittest.TestCase):
    def test_c_is_not_above_a(self):
        self.assertEqual(
            told(sample(5, 4), summed(5, 5), summed(5, 4), summed(0, 0), summed(TOP, TOP), summed(TOP, 0), summed(5, 6)),
            [[1], [-1], [-1], [-1], [-1], [-1], [4, 4]],
        )

    def test_a_is_less_than_e2(self):
        self.assertEqual(
            told(age(6120), summed(119, 130), summed(0, TOP), summed(120, 130), summed(120, 121))[1:],
            [[-3], [-3], [0, 0], [0, 0]],
        )

    def test_the_one_told_first(self):
        self.assertEqual(told(age(6120), summed(119, 119), summed(5, 3), summed(0, 0))[1:], [[-1], [-1], [-1]])

    def test_all_is_as_it_was(self):
        house = [sample(5, 1), sample(135, 2), sample(158, 7), age(6060), sample(5990, 3), age(6120)]
        behind = [edges(), buckets(0), buckets(1), summed(120, TOP), age(0), sample(6019, 1), sample(6020, 1), age(6180)]
        as_it_was = told(*house, *behind)[6:]
        for refused, number in ((summed(200, 200), -1), (summed(9, 0), -1), (summed(119, 200), -3)):
            self.assertEqual(told(*house, refused, *behind)[6:], [[number]] + as_it_was, refused)

    def test_asking_changes_nothing(self):
        house = bucket([(2, 4), (5, 1), (11, 6)])
        behind = [edges(), buckets(0), buckets(1), age(20), count(3, 9)]
        self.assertEqual(told(*house, summed(3, 9), summed(0, 9), *behind)[7:], told(*house, *behind)[5:])


class Numbers(unittest.TestCase):
    def test_up_to_the_largest(self):
        self.assertEqual(
            told(
                sample(MILLION, MILLION), summed(0, TOP), summed(MILLION, TOP), summed(MILLION + 1, TOP),
                summed(TOP - 1, TOP), summed(MILLION, MILLION + 1), summed(0, MILLION),
            ),
            [[1], [MILLION] * 2, [MILLION] * 2, [0, 0], [0, 0], [MILLION] * 2, [0, 0]],
        )

    def test_nothing_kept(self):
        self.assertEqual(told(summed(0, 1), summed(0, TOP)), [[0, 0], [0, 0]])

    def test_a_hundred_of_the_greatest_value(self):
        house = [begin(200, 200, 0, 1000, 2000)] + [sample(time, MILLION) for time in range(0, 200, 2)] + [age(200)]
        self.assertEqual(
            told(*house, summed(0, TOP), summed(0, 198), summed(0, 100))[102:],
            [[100 * MILLION] * 2, [99 * MILLION] * 2, [MILLION, 99 * MILLION]],
        )

    def test_the_least_and_the_greatest_value(self):
        # First 0, last 10; one of the three is 0, one is 10^6, one is 1.
        house = bucket([(0, 0), (4, MILLION), (10, 1)])
        self.assertEqual(
            told(*house, summed(0, 1), summed(0, 10), summed(1, 10), summed(1, 11), summed(5, 6))[5:],
            [[0, MILLION], [1, MILLION + 1], [0, MILLION], [1, MILLION + 1], [0, MILLION]],
        )


class Samples(unittest.TestCase):
    def test_from_a_to_ahead_of_c(self):
        calls = [sample(5, 3), sample(7, 20)]
        for (a, c), found in (
            ((5, 6), 3), ((4, 5), 0), ((6, 7), 0), ((5, 7), 3), ((5, 8), 23), ((6, 8), 20), ((8, 9), 0), ((0, 100), 23),
        ):
            self.assertEqual(last_told(*calls, summed(a, c)), [found, found], (a, c))

    def test_samples_are_told_apart_though_near(self):
        calls = samples_calls([(time, 10 ** time) for time in range(0, 7)])
        self.assertEqual(last_told(*calls, summed(2, 5)), [11100, 11100])


class OneBucket(unittest.TestCase):
    def hold(self, samples, expected):
        house = bucket(samples)
        self.assertEqual(last_told(*house), [0, 1, 0])
        self.assertEqual(dict(zip(expected, sums(house, list(expected)))), expected, samples)

    def test_of_one(self):
        self.hold([(7, 9)], {
            (0, 20): [9, 9], (7, 8): [9, 9], (0, 7): [0, 0], (8, 20): [0, 0], (0, 8): [9, 9], (7, 20): [9, 9],
        })

    def test_of_two(self):
        # Which of the two had which value is known no longer.
        expected = {
            (0, 20): [10, 10], (4, 10): [10, 10], (4, 9): [2, 8], (5, 10): [2, 8], (5, 9): [0, 0], (4, 5): [2, 8],
            (9, 10): [2, 8], (0, 4): [0, 0], (10, 20): [0, 0],
        }
        self.hold([(4, 2), (9, 8)], expected)
        self.hold([(4, 8), (9, 2)], expected)

    def test_of_two_alike(self):
        self.hold([(4, 5), (9, 5)], {(0, 20): [10, 10], (4, 9): [5, 5], (9, 10): [5, 5], (5, 9): [0, 0]})

    def test_of_more(self):
        # 3, 10 and two that come to 9; first 2, last 12, two others somewhere from 3 to 11.
        self.hold([(2, 3), (5, 10), (6, 4), (12, 5)], {
            (0, 20): [22, 22], (2, 13): [22, 22], (2, TOP): [22, 22],
            (2, 3): [3, 10], (12, 13): [3, 10], (2, 4): [3, 16], (2, 5): [3, 19], (2, 10): [3, 19], (2, 11): [6, 19],
            (2, 12): [12, 19], (3, 13): [12, 19], (3, 12): [6, 16], (4, 11): [0, 16], (7, 8): [0, 10],
            (0, 2): [0, 0], (13, 20): [0, 0],
        })

    def test_of_more_with_a_great_sum(self):
        # 3, 10 and two that come to 19: beside two with 10 each the others still come to 12.
        self.hold([(2, 9), (5, 10), (6, 3), (12, 10)], {
            (2, 13): [32, 32], (2, 3): [3, 10], (2, 12): [22, 29], (3, 12): [12, 20], (4, 12): [3, 20], (4, 11): [0, 20],
        })

    def test_of_more_with_a_small_sum(self):
        # 3, 10 and two that come to 7: beside two with 3 each the others come to 14 at most.
        self.hold([(2, 3), (5, 10), (6, 3), (12, 4)], {
            (2, 13): [20, 20], (2, 3): [3, 10], (2, 12): [10, 17], (3, 12): [6, 14], (4, 11): [0, 14],
        })

    def test_of_more_alike(self):
        self.hold([(2, 6), (5, 6), (6, 6), (12, 6)], {
            (2, 13): [24, 24], (2, 3): [6, 6], (2, 12): [18, 18], (3, 12): [12, 12], (4, 11): [0, 12], (2, 10): [6, 18],
        })

    def test_of_more_that_are_0(self):
        self.hold([(2, 0), (5, 0), (6, 0), (12, 0)], {(2, 13): [0, 0], (2, 10): [0, 0], (4, 11): [0, 0]})

    def test_at_each_time(self):
        # All lie where they lie, but not with which value: 1, 9 and two that come to 7.
        self.hold([(3, 1), (4, 9), (5, 5), (6, 2)], {
            (3, 7): [17, 17], (3, 4): [1, 9], (3, 5): [2, 15], (4, 6): [2, 15], (3, 6): [8, 16], (4, 7): [8, 16],
        })


class SeveralBuckets(unittest.TestCase):
    def setUp(self):
        # Behind age: e0 60, e1 40, e2 20.
        times = (5, 21, 24, 33, 38, 42, 44, 47, 55, 58, 59, 61, 64, 90)
        self.house = [begin(10, 20, 10, 30, 50)] + [sample(time, time) for time in times] + [age(70)]

    def test_added_up(self):
        # Larger: 4 from 21 to 38, sum 116. Buckets: 3 from 42 to 47, sum 133; 3 from 55 to 59, sum 172.
        expected = {
            (20, 100): [116 + 133 + 172 + 215] * 2,
            (20, 40): [116, 116],
            (40, 60): [305, 305],
            (60, 100): [215, 215],
            (40, 50): [133, 133],
            (20, 22): [21, 38],
            (22, 40): [78, 95],
            (22, 38): [42, 74],
            (23, 42): [42 + 0, 95 + 0],
            (23, 43): [42 + 42, 95 + 47],
            (30, 57): [21 + 133 + 55, 95 + 133 + 117],
            (43, 58): [86 + 55, 91 + 117],
            (58, 62): [55 + 61, 117 + 61],
            (61, 65): [125, 125],
            (65, 90): [0, 0],
        }
        self.assertEqual(dict(zip(expected, sums(self.house, list(expected)))), expected)

    def test_what_is_forgotten(self):
        self.assertEqual(told(*self.house, summed(19, 100), summed(5, 6))[-2:], [[-3], [-3]])

    def test_ahead_of_the_larger_one_more_is_known(self):
        house = [begin(10, 20, 10, 30, 50)] + samples_calls([(21, 5), (24, 9), (33, 1), (38, 2)])
        asked = [summed(20, 30), summed(21, 22)]
        self.assertEqual(told(*house, age(50), *asked)[5:], [[0, 2, 0], [14, 14], [5, 9]])
        # 1, 9 and two that come to 7; one or more, and three at most, of the four.
        self.assertEqual(told(*house, age(70), *asked)[5:], [[0, 0, 1], [1, 16], [1, 9]])


if __name__ == "__main__":
    unittest.main()
