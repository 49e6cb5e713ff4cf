import unittest

from helping import (
    MILLION, TOP, Remembering, age, begin, buckets, count, edges, last_told, most, sample, summed, told,
)


class Edges(unittest.TestCase):
    def test_at_the_beginning(self):
        self.assertEqual(told(edges()), [[0, 0, 0]])
        self.assertEqual(told(sample(500, 1), edges(), count(0, 9), edges())[1::2], [[0, 0, 0], [0, 0, 0]])

    def test_behind_begin(self):
        self.assertEqual(told(begin(3, 9, 0, 0, 0), edges()), [[0], [0, 0, 0]])
        self.assertEqual(
            told(age(7000), edges(), begin(10, 60, 100, 600, 6000), edges(), age(7000), edges())[1::2],
            [[6900, 6360, 960], [0, 0, 0], [6900, 6360, 960]],
        )

    def test_behind_age(self):
        for now, expected in (
            (0, [0, 0, 0]), (99, [0, 0, 0]), (100, [0, 0, 0]), (109, [0, 0, 0]), (110, [10, 0, 0]), (119, [10, 0, 0]),
            (120, [20, 0, 0]), (659, [550, 0, 0]), (660, [560, 60, 0]), (719, [610, 60, 0]), (720, [620, 120, 0]),
            (6059, [5950, 5400, 0]), (6060, [5960, 5460, 60]), (6119, [6010, 5460, 60]), (6120, [6020, 5520, 120]),
            (2000000, [1999900, 1999380, 1993980]),
        ):
            self.assertEqual(last_told(age(now), edges()), expected, now)

    def test_each_by_its_own_time_and_width(self):
        self.assertEqual(
            told(begin(5, 20, 10, 30, 60), age(84), edges(), age(85), edges(), age(100), edges())[2::2],
            [[70, 40, 20], [75, 40, 20], [90, 60, 40]],
        )
        self.assertEqual(last_told(begin(7, 7, 0, 0, 0), age(20), edges()), [14, 14, 14])
        self.assertEqual(last_told(begin(1, 50, 3, 3, 3), age(102), edges()), [99, 50, 50])
        self.assertEqual(last_told(begin(1, 1, 0, 0, 0), age(2000000), edges()), [2000000] * 3)

    def test_behind_an_age_to_an_earlier_time(self):
        calls = [age(705), edges(), age(130), edges(), age(0), edges(), age(6075), edges(), age(5000), edges(), age(6120)]
        self.assertEqual(
            told(*calls, edges())[1::2],
            [[600, 60, 0]] * 3 + [[5970, 5460, 60]] * 2 + [[6020, 5520, 120]],
        )

    def test_now_by_now(self):
        for setting in ((5, 15, 20, 50, 90), (4, 4, 0, 1, 2), (3, 30, 7, 7, 64), (10, 10, 150, 160, 170)):
            for now in range(0, 200):
                house = Remembering(*setting)
                house.grow(now)
                self.assertEqual(last_told(begin(*setting), age(now), edges()), house.edges, (setting, now))

    def test_samples_do_not_move_them(self):
        self.assertEqual(told(sample(MILLION, 1), sample(0, 1), edges(), age(110), sample(900, 1), edges())[2::3],
                         [[0, 0, 0], [10, 0, 0]])

    def test_a_refusal_does_not_move_them(self):
        refused = [
            age(2000001), age(TOP), begin(0, 1, 1, 1, 1), begin(2, 3, 1, 1, 1), begin(1, 1, 2, 1, 1), sample(0, 1),
            sample(TOP, 1), count(0, 1), summed(0, 1), most(0, 1), most(6000, 6001), buckets(2), count(1, 1),
        ]
        for call in refused:
            found = told(age(6075), call, edges())
            self.assertLess(found[1][0], 0, call)
            self.assertEqual((len(found[1]), found[2]), (1, [5970, 5460, 60]), call)

    def test_they_are_what_the_other_calls_go_by(self):
        found = told(age(6075), edges(), sample(5969, 1), sample(5970, 1), count(59, 60), count(60, 61))
        self.assertEqual(found[1:], [[5970, 5460, 60], [-6], [1], [-3], [0, 0]])


if __name__ == "__main__":
    unittest.main()
