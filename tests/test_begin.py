import unittest

from helping import MILLION, TOP, age, begin, count, last_told, sample, told


class Accepted(unittest.TestCase):
    def test_answers_0(self):
        self.assertEqual(told(begin(10, 60, 100, 600, 6000)), [[0]])

    def test_edges_that_are_still_right(self):
        for given in (
            (1, 1, 0, 0, 0),
            (7, 7, 5, 5, 5),
            (1, MILLION, 0, 0, 0),
            (MILLION, MILLION, MILLION, MILLION, MILLION),
            (500000, MILLION, 0, 0, MILLION),
            (10, 60, 0, 0, 1),
            (10, 60, 600, 601, 601),
        ):
            self.assertEqual(told(begin(*given)), [[0]], given)

    def test_times_may_be_shorter_than_the_widths(self):
        self.assertEqual(told(begin(10, 60, 1, 2, 3)), [[0]])


class Refused(unittest.TestCase):
    def refuse(self, *given):
        self.assertEqual(told(begin(*given)), [[-1]], given)

    def test_a_width_of_0(self):
        self.refuse(0, 60, 100, 600, 6000)
        self.refuse(10, 0, 100, 600, 6000)
        self.refuse(0, 0, 100, 600, 6000)

    def test_wide_above_a_million(self):
        self.refuse(1, MILLION + 1, 100, 600, 6000)
        self.refuse(MILLION + 1, MILLION + 1, 100, 600, 6000)
        self.refuse(1, TOP, 100, 600, 6000)
        self.refuse(TOP, TOP, 100, 600, 6000)

    def test_wide_no_multiple(self):
        self.refuse(10, 59, 100, 600, 6000)
        self.refuse(10, 61, 100, 600, 6000)
        self.refuse(60, 10, 100, 600, 6000)
        self.refuse(2, 1, 100, 600, 6000)
        self.refuse(TOP, 60, 100, 600, 6000)

    def test_a_time_less_than_the_one_ahead_of_it(self):
        self.refuse(10, 60, 100, 99, 6000)
        self.refuse(10, 60, 100, 600, 599)
        self.refuse(10, 60, 100, 0, 100)
        self.refuse(10, 60, 1, 0, 0)
        self.refuse(10, 60, 0, 1, 0)
        self.refuse(10, 60, TOP, 600, 6000)
        self.refuse(10, 60, 100, TOP, 6000)

    def test_the_last_above_a_million(self):
        self.refuse(10, 60, 100, 600, MILLION + 1)
        self.refuse(10, 60, MILLION + 1, MILLION + 1, MILLION + 1)
        self.refuse(10, 60, 100, 600, TOP)
        self.refuse(10, 60, TOP, TOP, TOP)


class WhatItSets(unittest.TestCase):
    def test_each_number_counts(self):
        # Width 5, wide 20, kept for 10, 30 and 60: one step of now at a time tells where each edge moves.
        filled = [begin(5, 20, 10, 30, 60)] + [sample(time, 1) for time in range(0, 20)]
        for now, sizes in (
            (14, [20, 0, 0]),
            (15, [15, 1, 0]),
            (19, [15, 1, 0]),
            (20, [10, 2, 0]),
            (29, [5, 3, 0]),
            (30, [0, 4, 0]),
            (49, [0, 4, 0]),
            (50, [0, 0, 1]),
            (79, [0, 0, 1]),
            (80, [0, 0, 0]),
        ):
            self.assertEqual(last_told(*filled, age(now)), sizes, now)

    def test_the_largest_numbers(self):
        self.assertEqual(
            told(
                begin(MILLION, MILLION, MILLION, MILLION, MILLION),
                sample(999999, 3),
                sample(MILLION, 4),
                age(1999999),
                age(2000000),
                sample(999999, 3),
                sample(MILLION, 4),
                count(999999, TOP),
                count(MILLION, TOP),
            ),
            [[0], [1], [2], [2, 0, 0], [1, 0, 0], [-6], [1], [-3], [1, 1]],
        )

    def test_times_of_0(self):
        self.assertEqual(
            told(begin(1, 2, 0, 0, 0), sample(4, 1), sample(5, 1), age(5), age(6), sample(5, 1), sample(6, 1)),
            [[0], [1], [2], [1, 1, 0], [0, 0, 0], [-6], [1]],
        )


class TheBeginning(unittest.TestCase):
    def test_as_behind_begin_with_10_60_100_600_6000(self):
        calls = [sample(time, time) for time in range(0, 130, 9)]
        for now in (109, 110, 159, 160, 659, 660, 719, 720, 6059, 6060, 6119, 6120):
            calls.append(age(now))
            calls.append(count(0, 45))
            calls.append(count(60, 95))
        self.assertEqual(told(*calls), told(begin(10, 60, 100, 600, 6000), *calls)[1:])

    def test_by_its_numbers(self):
        self.assertEqual(
            told(
                sample(0, 1), sample(9, 1), sample(10, 1), sample(59, 1), sample(60, 1),
                age(109), age(110), age(160), age(170), age(659), age(660), age(719), age(720),
                age(6059), age(6060), age(6119), age(6120),
            ),
            [
                [1], [2], [3], [4], [5],
                [5, 0, 0], [3, 1, 0], [1, 3, 0], [0, 4, 0], [0, 4, 0], [0, 1, 1], [0, 1, 1], [0, 0, 2],
                [0, 0, 2], [0, 0, 1], [0, 0, 1], [0, 0, 0],
            ],
        )


class ComingAgain(unittest.TestCase):
    def setUp(self):
        # Samples, buckets and larger ones, and each edge above 0.
        self.full = [begin(5, 20, 10, 30, 60), sample(25, 3), sample(45, 4), sample(70, 5), sample(75, 6), age(84)]

    def test_the_house_is_full(self):
        self.assertEqual(
            told(*self.full, count(19, 90), count(20, 90))[5:], [[2, 1, 1], [-3], [4, 4]]
        )

    def test_forgets_all(self):
        self.assertEqual(
            told(*self.full, begin(5, 20, 10, 30, 60), count(0, TOP), age(0), sample(0, 9), sample(75, 7))[6:],
            [[0], [0, 0], [0, 0, 0], [1], [2]],
        )

    def test_is_as_a_new_house(self):
        behind = [begin(4, 8, 2, 6, 20), sample(1, 1), sample(3, 1), age(9), count(0, 3), age(30), sample(2, 2)]
        self.assertEqual(told(*self.full, *behind)[6:], told(*behind))

    def test_a_refused_one_changes_nothing(self):
        behind = [
            age(0), count(19, 90), count(20, 26), count(0, TOP), sample(69, 1), sample(75, 7), sample(71, 1),
            age(90), count(20, 72), age(100), count(40, 72), age(145),
        ]
        as_it_was = told(*self.full, *behind)[6:]
        for given in (
            (0, 60, 100, 600, 6000),
            (3, 0, 1, 1, 1),
            (3, 10, 1, 1, 1),
            (1, MILLION + 1, 1, 1, 1),
            (3, 9, 2, 1, 1),
            (3, 9, 1, 2, 1),
            (3, 9, 1, 1, MILLION + 1),
        ):
            self.assertEqual(told(*self.full, begin(*given), *behind)[6:], [[-1]] + as_it_was, given)

    def test_a_refused_one_at_the_beginning_changes_nothing(self):
        calls = [sample(5, 1), sample(15, 1), age(110), age(115), count(0, 6)]
        self.assertEqual(told(begin(1, 1, 1, 1, MILLION + 1), *calls)[1:], told(*calls))


if __name__ == "__main__":
    unittest.main()
