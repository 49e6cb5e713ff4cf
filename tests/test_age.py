import unittest

from helping import TOP, Remembering, age, begin, count, last_told, sample, told


class IntoBuckets(unittest.TestCase):
    def test_an_empty_house(self):
        self.assertEqual(told(age(0), age(5000), age(2000000)), [[0, 0, 0]] * 3)

    def test_samples_into_one_bucket_for_each_stretch(self):
        calls = [sample(time, 1) for time in (0, 9, 10, 30, 39, 40)]
        self.assertEqual(last_told(*calls, age(139)), [3, 2, 0])
        self.assertEqual(last_told(*calls, age(140)), [1, 3, 0])
        self.assertEqual(last_told(*calls, age(150)), [0, 4, 0])

    def test_only_whole_stretches(self):
        self.assertEqual(last_told(sample(0, 1), sample(1, 1), sample(9, 1), age(109)), [3, 0, 0])
        self.assertEqual(last_told(sample(0, 1), sample(1, 1), sample(9, 1), age(110)), [0, 1, 0])

    def test_stretches_are_parted_from_0_on(self):
        calls = [begin(7, 21, 0, 0, 1000)] + [sample(time, 1) for time in (6, 7, 13, 14, 20, 21)]
        self.assertEqual(last_told(*calls, age(20)), [3, 2, 0])
        self.assertEqual(last_told(*calls, age(21)), [1, 0, 1])

    def test_buckets_into_larger_ones(self):
        calls = [sample(time, 1) for time in (5, 15, 55, 60, 65, 119, 120)]
        self.assertEqual(last_told(*calls, age(659)), [0, 6, 0])
        self.assertEqual(last_told(*calls, age(660)), [0, 3, 1])
        self.assertEqual(last_told(*calls, age(719)), [0, 3, 1])
        self.assertEqual(last_told(*calls, age(720)), [0, 1, 2])

    def test_larger_ones_are_forgotten(self):
        calls = [sample(time, 1) for time in (5, 55, 60, 150)]
        self.assertEqual(told(*calls, age(6059), count(0, 60))[4:], [[0, 0, 3], [2, 2]])
        self.assertEqual(told(*calls, age(6060), count(0, 60), count(60, 120))[4:], [[0, 0, 2], [-3], [1, 1]])
        self.assertEqual(last_told(*calls, age(6179)), [0, 0, 1])
        self.assertEqual(last_told(*calls, age(6180)), [0, 0, 0])

    def test_all_in_one_call(self):
        calls = [begin(5, 20, 10, 30, 60)] + [sample(time, 1) for time in (3, 19, 25, 26, 39, 41, 46, 52, 65, 71, 75)]
        self.assertEqual(
            told(*calls, age(85), count(19, 80), count(20, 80), count(26, 80))[12:],
            [[1, 5, 1], [-3], [9, 9], [8, 8]],
        )
        calls[0] = begin(5, 20, 10, 30, 80)
        self.assertEqual(told(*calls, age(85), count(0, 80))[12:], [[1, 5, 2], [11, 11]])

    def test_a_sample_forgotten_in_one_call(self):
        self.assertEqual(told(sample(5, 1), age(6060), count(0, 60), count(60, TOP))[1:], [[0, 0, 0], [-3], [0, 0]])

    def test_further_samples_into_further_buckets(self):
        self.assertEqual(
            told(sample(12, 1), age(120), sample(25, 1), sample(27, 1), age(130), count(0, 26), count(0, 30))[1:],
            [[0, 1, 0], [1], [2], [0, 2, 0], [2, 2], [3, 3]],
        )

    def test_a_width_and_a_wide_one_that_are_the_same(self):
        calls = [begin(10, 10, 0, 10, 20)] + [sample(time, 1) for time in (1, 8, 11, 12, 25)]
        self.assertEqual(told(*calls, age(20), age(29), age(30), age(40))[6:], [[1, 1, 1], [1, 1, 1], [0, 1, 1], [0, 0, 1]])


class Edges(unittest.TestCase):
    def test_now_below_the_times(self):
        self.assertEqual(
            told(sample(0, 1), age(0), age(99), age(100), age(109), sample(1, 1), count(0, 2)),
            [[1], [1, 0, 0], [1, 0, 0], [1, 0, 0], [1, 0, 0], [2], [2, 2]],
        )

    def test_now_below_the_buckets_time_alone(self):
        self.assertEqual(told(sample(0, 1), age(599), count(0, 5))[1:], [[0, 1, 0], [1, 1]])

    def test_now_below_the_larger_ones_time_alone(self):
        self.assertEqual(told(sample(0, 1), age(5999), count(0, 5))[1:], [[0, 0, 1], [1, 1]])

    def test_a_now_that_is_less_than_one_before(self):
        house = [begin(10, 60, 100, 160, 300), sample(100, 1), sample(119, 1), sample(125, 1), age(220)]
        self.assertEqual(
            told(*house, age(0), sample(119, 1), sample(120, 1), age(219), sample(119, 1))[4:],
            [[1, 2, 0], [1, 2, 0], [-6], [2], [2, 2, 0], [-6]],
        )

    def test_e2_stays(self):
        self.assertEqual(
            told(age(6060), age(0), count(59, 100), count(60, 100), age(6000), count(59, 100)),
            [[0, 0, 0], [0, 0, 0], [-3], [0, 0], [0, 0, 0], [-3]],
        )

    def test_each_edge_now_by_now(self):
        for now in range(0, 200):
            house = Remembering(5, 15, 20, 50, 90)
            house.grow(now)
            calls = [begin(5, 15, 20, 50, 90), age(now)]
            e0, e1, e2 = house.edges
            if e0 > 0:
                self.assertEqual(last_told(*calls, sample(e0 - 1, 1)), [-6], now)
            if e2 > 0:
                self.assertEqual(last_told(*calls, count(e2 - 1, TOP)), [-3], now)
            self.assertEqual(told(*calls, sample(e0, 1), count(e2, TOP))[2:], [[1], [1, 1]], now)


class Refused(unittest.TestCase):
    def test_above_two_million(self):
        for now in (2000001, TOP):
            self.assertEqual(told(sample(5, 1), age(now), sample(4, 1), count(0, 9)), [[1], [-1], [2], [2, 2]], now)

    def test_two_million_itself(self):
        self.assertEqual(
            told(sample(1000000, 1), age(2000000), count(0, TOP), count(1993980, TOP), sample(1000000, 1)),
            [[1], [0, 0, 0], [-3], [0, 0], [-6]],
        )

    def test_all_is_as_it_was(self):
        house = [sample(5, 1), sample(105, 1), age(110)]
        behind = [sample(10, 2), sample(9, 2), age(0), count(0, 8), age(660), count(0, 8)]
        self.assertEqual(told(*house, age(2000001), *behind)[4:], told(*house, *behind)[3:])


if __name__ == "__main__":
    unittest.main()
