"""What buckets keep and how they are put together, below the calls."""

import itertools
import unittest

from coarsekept.bucket import beginning_of_stretch, bucket_of_one, joined, numbers_of, put_into_stretches
from coarsekept.house import House
from helping import Remembering, kept_of


def shown(bucket):
    return tuple(numbers_of(bucket))


def alone(samples):
    return {time: bucket_of_one(time, value) for time, value in samples}


class WhatIsKept(unittest.TestCase):
    def test_of_one(self):
        self.assertEqual(shown(bucket_of_one(7, 3)), (1, 7, 7, 3, 3, 3))
        self.assertEqual(shown(bucket_of_one(0, 0)), (1, 0, 0, 0, 0, 0))

    def test_of_two(self):
        one, other = bucket_of_one(7, 3), bucket_of_one(4, 9)
        self.assertEqual(shown(joined(one, other)), (2, 4, 7, 12, 3, 9))
        self.assertEqual(shown(joined(other, one)), (2, 4, 7, 12, 3, 9))
        self.assertEqual((shown(one), shown(other)), ((1, 7, 7, 3, 3, 3), (1, 4, 4, 9, 9, 9)))

    def test_of_many_in_every_order(self):
        samples = [(3, 5), (4, 1), (6, 8), (8, 1), (9, 2)]
        for order in itertools.permutations(samples):
            found = {}
            self.assertEqual(put_into_stretches(alone(order), found, 10, 10), {})
            self.assertEqual({begins: shown(bucket) for begins, bucket in found.items()}, {0: (5, 3, 9, 17, 1, 8)})


class IntoStretches(unittest.TestCase):
    def test_where_a_stretch_begins(self):
        for time, width, begins in (
            (0, 10, 0), (9, 10, 0), (10, 10, 10), (19, 10, 10), (20, 7, 14), (5, 1, 5), (-1, 10, 0), (-30, 10, 0),
        ):
            self.assertEqual(beginning_of_stretch(time, width), begins, (time, width))

    def test_one_for_each_stretch_that_has_any(self):
        coarser = {}
        staying = put_into_stretches(alone([(1, 5), (8, 2), (31, 4), (40, 6), (45, 7)]), coarser, 40, 10)
        self.assertEqual(sorted(staying), [40, 45])
        self.assertEqual(
            {begins: shown(bucket) for begins, bucket in coarser.items()}, {0: (2, 1, 8, 7, 2, 5), 30: (1, 31, 31, 4, 4, 4)}
        )


class TheHouse(unittest.TestCase):
    def test_all_that_is_kept(self):
        samples = {time: time * 7 % 11 for time in range(0, 95, 3)}
        for now in range(0, 180, 6):
            house, remembering = House(), Remembering(5, 20, 10, 30, 60)
            house.begin(5, 20, 10, 30, 60)
            for time, value in samples.items():
                house.sample(time, value)
            remembering.came = samples
            house.age(now)
            remembering.grow(now)
            for found, expected in zip((house.samples, house.buckets, house.larger), remembering.kept()):
                self.assertEqual(sorted(shown(one) for one in found.values()), sorted(map(kept_of, expected)), now)

    def test_no_edge_is_ever_less_than_it_was(self):
        house = House()
        self.assertEqual((house.e0, house.e1, house.e2), (0, 0, 0))
        for now, edges in (
            (50, (0, 0, 0)), (705, (600, 60, 0)), (130, (600, 60, 0)), (0, (600, 60, 0)), (6075, (5970, 5460, 60)),
            (5000, (5970, 5460, 60)), (6120, (6020, 5520, 120)),
        ):
            house.age(now)
            self.assertEqual((house.e0, house.e1, house.e2), edges, now)

    def test_begin_puts_the_edges_back(self):
        house = House()
        house.age(7000)
        house.begin(0, 60, 100, 600, 6000)
        self.assertEqual((house.e0, house.e1, house.e2), (6900, 6360, 960))
        house.begin(10, 60, 100, 600, 6000)
        self.assertEqual((house.e0, house.e1, house.e2), (0, 0, 0))


if __name__ == "__main__":
    unittest.main()
