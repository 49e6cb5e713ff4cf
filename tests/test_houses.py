"""Points 2 and 4, and all else that a house tells, by samples that the test itself remembers."""

import random
import unittest

from helping import (
    MILLION, Remembering, age, all_stretches, begin, buckets, counts, edges, mosts, sample, samples_calls, sums, told,
    told_behind,
)

SETTINGS = (
    (10, 60, 100, 600, 6000), (5, 20, 10, 30, 60), (1, 4, 0, 3, 9), (4, 4, 4, 4, 4), (3, 12, 0, 0, 0),
    (7, 21, 0, 40, 41), (2, 30, 15, 15, 90), (6, 6, 5, 11, 40), (1, 1, 0, 5, 9), (8, 24, 30, 31, 200),
)


def value_of(chance):
    return chance.choice((chance.randrange(5), chance.randrange(5), chance.randrange(100, 999), 0, MILLION))


def walk(chance, setting):
    """Calls and a house that remembers: samples come and it grows older, now and then back."""
    house = Remembering(*setting)
    calls = [begin(*setting)]
    reach = setting[4] + 3 * setting[1] + 5
    now = 0
    for step in range(chance.randrange(20, 70)):
        if chance.random() < 0.15:
            now += chance.randrange(0, reach // 4 + 2)
            asked = chance.choice((now, now, now, max(0, now - chance.randrange(reach))))
            house.grow(asked)
            calls.append(age(asked))
        else:
            time = house.edges[0] + chance.randrange(0, 2 + setting[2] + setting[0] * 3)
            value = house.came.setdefault(time, value_of(chance))
            calls.append(sample(time, value))
    return house, calls


def houses():
    for seed in range(12):
        for setting in SETTINGS:
            chance = random.Random(f"{seed} {setting}")
            house, calls = walk(chance, setting)
            yield chance, house, calls


def some_stretches(chance, house):
    until = max(house.came, default=0) + 5
    cuts = {chance.randrange(house.edges[2], max(until, house.edges[2] + 1) + 1) for i in range(14)}
    cuts = sorted(cuts | set(house.edges) | {until + house.edges[2]})
    return [(a, c) for a in cuts for c in cuts if a < c]


class RandomHouses(unittest.TestCase):
    def test_no_sample_is_refused_and_the_sizes_are_right(self):
        for chance, house, calls in houses():
            again = Remembering(house.width, house.wide, *house.times)
            for call, found in zip(calls[1:], told(*calls)[1:]):
                if call[0] == 3:
                    again.grow(call[1])
                    self.assertEqual(found, again.sizes(), calls)
                else:
                    again.came[call[1]] = call[2]
                    self.assertEqual(found, [again.sizes()[0]], calls)

    def test_the_edges_and_all_that_is_kept(self):
        larger = 0
        for chance, house, calls in houses():
            found = told_behind(calls, [edges(), buckets(0), buckets(1)])
            self.assertEqual(found, [house.edges, house.rows(0), house.rows(1)], calls)
            larger += found[2][0]
        self.assertGreater(larger, 50)

    def test_point_2_how_many(self):
        wider = 0
        for chance, house, calls in houses():
            stretches = some_stretches(chance, house)
            for (a, c), (few, many) in zip(stretches, counts(calls, stretches)):
                self.assertTrue(few <= len(house.there(a, c)) <= many, (calls, a, c))
                wider += few < many
                if a >= house.edges[0]:
                    self.assertEqual(few, many, (calls, a, c))
        self.assertGreater(wider, 1000)

    def test_point_2_what_they_come_to(self):
        wider = 0
        for chance, house, calls in houses():
            stretches = some_stretches(chance, house)
            for (a, c), (low, high) in zip(stretches, sums(calls, stretches)):
                self.assertTrue(low <= sum(house.there(a, c)) <= high, (calls, a, c))
                wider += low < high
                if a >= house.edges[0]:
                    self.assertEqual(low, high, (calls, a, c))
        self.assertGreater(wider, 1000)

    def test_the_greatest_is_no_less_than_any_that_came(self):
        for chance, house, calls in houses():
            stretches = some_stretches(chance, house)
            for (a, c), (found,) in zip(stretches, mosts(calls, stretches)):
                truth = max(house.there(a, c), default=-4)
                self.assertGreaterEqual(found, truth, (calls, a, c))
                if a >= house.edges[0]:
                    self.assertEqual(found, truth, (calls, a, c))

    def test_the_bounds_are_the_closest(self):
        for chance, house, calls in houses():
            stretches = some_stretches(chance, house)
            self.assertEqual(counts(calls, stretches), [house.number_bounds(a, c) for a, c in stretches], calls)
            self.assertEqual(sums(calls, stretches), [house.sum_bounds(a, c) for a, c in stretches], calls)
            self.assertEqual(mosts(calls, stretches), [house.most(a, c) for a, c in stretches], calls)

    def test_point_4_between_beginnings_of_wide_stretches(self):
        for chance, house, calls in houses():
            until = max(max(house.came, default=0), house.edges[2]) + 2 * house.wide
            cuts = list(range(house.edges[2], until, house.wide))
            cuts = sorted(chance.sample(cuts, min(len(cuts), 12)))
            stretches = [(a, c) for a in cuts for c in cuts if a < c]
            truth = [house.there(a, c) for a, c in stretches]
            self.assertEqual(counts(calls, stretches), [[len(values)] * 2 for values in truth], calls)
            self.assertEqual(sums(calls, stretches), [[sum(values)] * 2 for values in truth], calls)
            self.assertEqual(mosts(calls, stretches), [[max(values, default=-4)] for values in truth], calls)


class Point2(unittest.TestCase):
    def test_from_e0_on_both_are_the_same(self):
        samples = [(time, time % 5) for time in range(0, 120, 7)]
        calls = samples_calls(samples) + [age(160)]
        stretches = all_stretches(60, 90)
        truth = [[value for time, value in samples if a <= time < c] for a, c in stretches]
        self.assertEqual(counts(calls, stretches), [[len(values)] * 2 for values in truth])
        self.assertEqual(sums(calls, stretches), [[sum(values)] * 2 for values in truth])

    def test_refused_samples_do_not_count(self):
        calls = [sample(3, 1), sample(3, 2), sample(MILLION + 1, 1), age(110), sample(4, 1)]
        stretches = [(0, 10), (0, 2 * MILLION)]
        self.assertEqual(counts(calls, stretches), [[1, 1], [1, 1]])
        self.assertEqual(sums(calls, stretches), [[1, 1], [1, 1]])
        self.assertEqual(mosts(calls, stretches), [[1], [1]])
        self.assertEqual(told_behind(calls, [buckets(0)]), [[1, 0, 1, 3, 3, 1, 1, 1]])


class Point4(unittest.TestCase):
    def test_the_same_from_one_wide_stretch_to_another(self):
        samples = [(time, time * 7 % 31) for time in range(0, 200, 3)]
        # Behind age: e0 130, e1 60, e2 20, so that some wide stretches are larger buckets, buckets or samples alone.
        calls = [begin(10, 20, 20, 80, 130)] + samples_calls(samples) + [age(150)]
        self.assertEqual(told_behind(calls, [edges()]), [[130, 60, 20]])
        cuts = range(20, 240, 20)
        stretches = [(a, c) for a in cuts for c in cuts if a < c]
        truth = [[value for time, value in samples if a <= time < c] for a, c in stretches]
        self.assertEqual(counts(calls, stretches), [[len(values)] * 2 for values in truth])
        self.assertEqual(sums(calls, stretches), [[sum(values)] * 2 for values in truth])


if __name__ == "__main__":
    unittest.main()
