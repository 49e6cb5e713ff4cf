import unittest

from helping import MILLION, TOP, age, begin, count, last_told, sample, told

HUNDRED = [sample(time, time + 1) for time in range(200, 300)]


class Answers(unittest.TestCase):
    def test_how_many_samples_there_are(self):
        self.assertEqual(told(sample(7, 1), sample(3, 1), sample(8, 0)), [[1], [2], [3]])

    def test_those_in_buckets_are_not_counted(self):
        self.assertEqual(
            told(sample(0, 1), sample(1, 1), sample(20, 1), age(110), sample(21, 1), age(720), sample(700, 2))[3:],
            [[1, 1, 0], [2], [0, 0, 1], [1]],
        )

    def test_edges_that_are_still_right(self):
        self.assertEqual(
            told(sample(0, 0), sample(MILLION, MILLION), sample(1, MILLION), sample(999999, 0)),
            [[1], [2], [3], [4]],
        )
        self.assertEqual(
            told(sample(MILLION, 5), count(MILLION, MILLION + 1), count(999999, MILLION)), [[1], [1, 1], [0, 0]]
        )

    def test_the_same_once_more_changes_nothing(self):
        self.assertEqual(
            told(sample(5, 2), sample(6, 2), sample(5, 2), sample(6, 2), count(0, 9), age(0)),
            [[1], [2], [2], [2], [2, 2], [2, 0, 0]],
        )
        self.assertEqual(told(sample(0, 0), sample(0, 0)), [[1], [1]])

    def test_the_same_once_more_beside_99_others(self):
        self.assertEqual(last_told(*HUNDRED, sample(250, 251)), [100])


class Refusals(unittest.TestCase):
    def test_above_a_million(self):
        for given in (
            (MILLION + 1, 0), (0, MILLION + 1), (MILLION + 1, MILLION + 1), (TOP, 0), (0, TOP), (TOP, TOP),
        ):
            self.assertEqual(told(sample(*given), sample(0, 1)), [[-1], [1]], given)

    def test_less_than_e0(self):
        self.assertEqual(
            told(age(110), sample(9, 1), sample(0, 1), sample(10, 1), age(129), sample(19, 1), sample(20, 1)),
            [[0, 0, 0], [-6], [-6], [1], [0, 1, 0], [-6], [1]],
        )

    def test_less_than_e0_though_the_same_is_in_a_bucket(self):
        self.assertEqual(told(sample(5, 1), age(110), sample(5, 1))[2], [-6])

    def test_e0_stays_where_it_was(self):
        self.assertEqual(told(age(200), age(110), sample(99, 1), sample(100, 1))[2:], [[-6], [1]])

    def test_another_value(self):
        self.assertEqual(
            told(sample(5, 2), sample(5, 3), sample(5, 1), sample(5, 0), sample(4, 3), sample(5, MILLION)),
            [[1], [-4], [-4], [-4], [2], [-4]],
        )
        self.assertEqual(told(sample(0, 0), sample(0, 1)), [[1], [-4]])

    def test_there_are_100(self):
        self.assertEqual(told(*HUNDRED)[98:], [[99], [100]])
        self.assertEqual(told(*HUNDRED, sample(300, 1), sample(199, 1))[100:], [[-5], [-5]])

    def test_there_are_99_again_when_one_is_in_a_bucket(self):
        self.assertEqual(
            told(*HUNDRED, sample(300, 1), age(310), sample(300, 1), age(0))[100:],
            [[-5], [90, 1, 0], [91], [91, 1, 0]],
        )

    def test_100_may_be_there_beside_buckets(self):
        before = [begin(10, 10, 0, 1000, 1000)] + [sample(time, 1) for time in range(0, 60)] + [age(60)]
        more = [sample(time, 1) for time in range(100, 200)]
        self.assertEqual(told(*before, *more, sample(99, 1))[61:], [[0, 6, 0]] + [[i] for i in range(1, 101)] + [[-5]])


class TheOneToldFirst(unittest.TestCase):
    def test_above_a_million_ahead_of_all(self):
        self.assertEqual(last_told(age(110), sample(9, MILLION + 1)), [-1])
        self.assertEqual(last_told(sample(9, 1), sample(9, MILLION + 1)), [-1])
        self.assertEqual(last_told(*HUNDRED, sample(MILLION + 1, 1)), [-1])
        self.assertEqual(last_told(*HUNDRED, sample(250, TOP)), [-1])
        self.assertEqual(last_told(*HUNDRED, age(300), sample(5, TOP)), [-1])

    def test_less_than_e0_ahead_of_100(self):
        self.assertEqual(last_told(*HUNDRED, age(300), sample(199, 1)), [-6])

    def test_less_than_e0_ahead_of_another_value(self):
        self.assertEqual(last_told(sample(5, 1), age(110), sample(5, 2)), [-6])

    def test_another_value_ahead_of_100(self):
        self.assertEqual(last_told(*HUNDRED, sample(250, 250)), [-4])


class AllAsItWas(unittest.TestCase):
    def test_behind_each_refusal(self):
        before = [*HUNDRED[:-1], age(310)]
        behind = [age(0), count(200, 300), count(0, TOP), sample(250, 251), sample(298, 299), sample(299, 7), age(330)]
        as_it_was = told(*before, *behind)[100:]
        for refused, number in (
            (sample(MILLION + 1, 1), -1), (sample(299, TOP), -1), (sample(209, 210), -6), (sample(250, 1), -4),
        ):
            self.assertEqual(told(*before, refused, *behind)[100:], [[number]] + as_it_was, refused)

    def test_behind_there_are_100(self):
        behind = [age(0), count(0, TOP), count(300, 301), sample(250, 251), age(500)]
        as_it_was = told(*HUNDRED, *behind)[100:]
        self.assertEqual(told(*HUNDRED, sample(300, 1), *behind)[100:], [[-5]] + as_it_was)


if __name__ == "__main__":
    unittest.main()
