import random
import unittest

from helping import MILLION, TOP, age, begin, buckets, count, edges, last_told, sample, samples_calls, told

SMALL = [begin(5, 20, 10, 30, 60)]


class Refusals(unittest.TestCase):
    def test_i_is_above_1(self):
        self.assertEqual(
            told(buckets(2), buckets(3), buckets(MILLION), buckets(MILLION + 1), buckets(TOP), buckets(1), buckets(0)),
            [[-1]] * 5 + [[0], [0]],
        )

    def test_all_is_as_it_was(self):
        house = [*SMALL, sample(25, 3), sample(45, 4), sample(70, 5), sample(75, 6), age(84)]
        behind = [edges(), buckets(0), buckets(1), age(0), count(20, TOP), sample(69, 1), sample(75, 6), age(95), buckets(1)]
        self.assertEqual(told(*house, buckets(2), *behind)[6:], [[-1]] + told(*house, *behind)[6:])

    def test_asking_changes_nothing(self):
        house = [*SMALL, sample(25, 3), sample(45, 4), sample(70, 5), sample(75, 6), age(84)]
        asked = [buckets(0), buckets(1)]
        self.assertEqual(told(*house, *asked, *asked, age(0), *asked)[6:],
                         [[1, 45, 1, 45, 45, 4, 4, 4], [1, 20, 1, 25, 25, 3, 3, 3]] * 2
                         + [[2, 1, 1], [1, 45, 1, 45, 45, 4, 4, 4], [1, 20, 1, 25, 25, 3, 3, 3]])


class Rows(unittest.TestCase):
    def test_none(self):
        self.assertEqual(told(buckets(0), buckets(1), sample(5, 1), buckets(0), buckets(1)), [[0], [0], [1], [0], [0]])

    def test_of_one(self):
        self.assertEqual(last_told(sample(7, 3), age(110), buckets(0)), [1, 0, 1, 7, 7, 3, 3, 3])
        self.assertEqual(last_told(sample(0, 0), age(110), buckets(0)), [1, 0, 1, 0, 0, 0, 0, 0])

    def test_each_number_in_its_place(self):
        calls = samples_calls([(13, 8), (11, 20), (18, 4), (16, 9)])
        self.assertEqual(
            told(*calls, age(120), buckets(0), buckets(1))[4:], [[0, 1, 0], [1, 10, 4, 11, 18, 41, 4, 20], [0]]
        )

    def test_buckets_then_larger_ones_then_none(self):
        calls = samples_calls([(61, 5), (69, 1), (70, 7), (119, 2), (120, 9)])
        asked = [buckets(0), buckets(1)]
        self.assertEqual(told(*calls, age(219), *asked)[5:], [
            [2, 2, 0], [2, 60, 2, 61, 69, 6, 1, 5, 70, 1, 70, 70, 7, 7, 7], [0],
        ])
        self.assertEqual(told(*calls, age(230), *asked)[5:], [
            [0, 4, 0],
            [4, 60, 2, 61, 69, 6, 1, 5, 70, 1, 70, 70, 7, 7, 7, 110, 1, 119, 119, 2, 2, 2, 120, 1, 120, 120, 9, 9, 9],
            [0],
        ])
        self.assertEqual(told(*calls, age(720), *asked)[5:], [
            [0, 1, 1], [1, 120, 1, 120, 120, 9, 9, 9], [1, 60, 4, 61, 119, 15, 1, 7],
        ])
        self.assertEqual(told(*calls, age(780), *asked)[5:], [
            [0, 0, 2], [0], [2, 60, 4, 61, 119, 15, 1, 7, 120, 1, 120, 120, 9, 9, 9],
        ])
        self.assertEqual(told(*calls, age(6120), *asked)[5:], [[0, 0, 1], [0], [1, 120, 1, 120, 120, 9, 9, 9]])
        self.assertEqual(told(*calls, age(6180), *asked)[5:], [[0, 0, 0], [0], [0]])

    def test_behind_begin_there_are_none(self):
        calls = [sample(5, 1), sample(100, 1), age(660), buckets(0), buckets(1), begin(10, 60, 100, 600, 6000)]
        self.assertEqual(told(*calls, buckets(0), buckets(1))[3:],
                         [[1, 100, 1, 100, 100, 1, 1, 1], [1, 0, 1, 5, 5, 1, 1, 1], [0], [0], [0]])

    def test_the_largest_numbers(self):
        calls = [begin(MILLION, MILLION, 0, 0, MILLION), sample(0, MILLION), sample(999999, MILLION), sample(MILLION, 0)]
        self.assertEqual(told(*calls, age(MILLION), buckets(0), buckets(1))[4:],
                         [[1, 0, 1], [0], [1, 0, 2, 0, 999999, 2 * MILLION, MILLION, MILLION]])
        self.assertEqual(told(*calls, age(2000000), buckets(0), buckets(1))[4:],
                         [[0, 0, 1], [0], [1, MILLION, 1, MILLION, MILLION, 0, 0, 0]])

    def test_a_hundred_and_more_buckets(self):
        calls = [begin(1, 1, 0, MILLION, MILLION)] + [sample(time, time) for time in range(90)] + [age(90)]
        calls += [sample(time, time) for time in range(90, 180)] + [age(180)]
        expected = [180]
        for time in range(180):
            expected += [time, 1, time, time, time, time, time]
        self.assertEqual(last_told(*calls, buckets(0)), expected)
        calls[0] = begin(1, 1, 0, 0, MILLION)
        self.assertEqual(last_told(*calls, buckets(1)), expected)


class InOrder(unittest.TestCase):
    SAMPLES = [(time, time * 3 % 17) for time in range(0, 90, 4)]

    def rows_in_order(self, calls):
        found = told(*calls, buckets(0), buckets(1))[-2:]
        for row in found:
            self.assertEqual(len(row), 1 + 7 * row[0], calls)
            self.assertEqual(row[1::7], sorted(set(row[1::7])), calls)
        return found

    def test_samples_that_come_backwards(self):
        backwards = [*SMALL, *samples_calls(self.SAMPLES[::-1]), age(84)]
        forwards = [*SMALL, *samples_calls(self.SAMPLES), age(84)]
        self.assertEqual(self.rows_in_order(backwards), self.rows_in_order(forwards))
        self.assertEqual(self.rows_in_order(backwards)[0][1::7], [40, 45, 50, 55, 60, 65])
        self.assertEqual(self.rows_in_order(backwards)[1][1::7], [20])

    def test_several_larger_ones(self):
        setting = begin(5, 10, 0, 20, 100)
        for samples in (self.SAMPLES, self.SAMPLES[::-1], self.SAMPLES[::2] + self.SAMPLES[1::2]):
            found = self.rows_in_order([setting, *samples_calls(samples), age(92)])
            self.assertEqual(found[0][1::7], [70, 75, 80, 85])
            self.assertEqual(found[1][1::7], [0, 10, 20, 30, 40, 50, 60])

    def test_whatever_order_and_steps(self):
        for seed in range(60):
            chance = random.Random(seed)
            calls = [begin(5, 10, 0, 20, 100)]
            e0 = 0
            for part in range(5):
                times = chance.sample(range(e0, e0 + 40), 12)
                calls += samples_calls([(time, time) for time in times])
                e0 += chance.randrange(0, 40) // 5 * 5
                calls.append(age(e0))
            self.rows_in_order(calls)


if __name__ == "__main__":
    unittest.main()
