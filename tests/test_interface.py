import random
import unittest

import coarsekept.house
from coarsekept.house import answers
from helping import MILLION, TOP, age, begin, buckets, count, edges, flat, most, parted, sample, summed


class Form(unittest.TestCase):
    def test_how_many_numbers_then_these(self):
        self.assertEqual(
            answers([1, 10, 60, 100, 600, 6000, 2, 5, 7, 2, 25, 7, 3, 110, 4, 0, 30]),
            [1, 0, 1, 1, 1, 2, 3, 1, 1, 0, 2, 2, 2],
        )

    def test_all_eight_calls(self):
        self.assertEqual(
            answers([
                1, 10, 60, 100, 600, 6000, 2, 5, 7, 2, 8, 3, 2, 25, 4, 3, 120, 4, 0, 8, 5, 0, 8, 6, 0, 8, 7, 8, 0, 8, 1,
                3, 660, 8, 1,
            ]),
            [
                1, 0, 1, 1, 1, 2, 1, 3, 3, 1, 1, 0, 2, 1, 1, 2, 3, 7, 1, 7, 3, 20, 0, 0, 8, 1, 0, 2, 5, 8, 10, 3, 7, 1, 0,
                3, 0, 0, 1, 8, 1, 0, 3, 5, 25, 14, 3, 7,
            ],
        )

    def test_a_refusal_is_its_number_alone(self):
        self.assertEqual(
            answers([5, 5, 5, 6, 5, 5, 6, 5, 6, 8, 2, 3, 6060, 5, 0, 9, 6, 0, 9]),
            [1, -1, 1, -1, 1, -4, 1, -1, 3, 0, 0, 0, 1, -3, 1, -3],
        )
        self.assertEqual(
            answers([1, 0, 0, 0, 0, 0, 3, 2000001, 4, 5, 5, 2, TOP, TOP, 3, 6060, 4, 0, 9, 2, 0, 0]),
            [1, -1, 1, -1, 1, -1, 1, -1, 3, 0, 0, 0, 1, -3, 1, -6],
        )

    def test_one_call(self):
        self.assertEqual(answers([3, 0]), [3, 0, 0, 0])
        self.assertEqual(answers([4, 0, 1]), [2, 0, 0])
        self.assertEqual(answers([2, 0, 0]), [1, 1])
        self.assertEqual(answers([5, 0, 1]), [2, 0, 0])
        self.assertEqual(answers([6, 0, 1]), [1, -4])
        self.assertEqual(answers([7]), [3, 0, 0, 0])
        self.assertEqual(answers([8, 0]), [1, 0])
        self.assertEqual(answers([8, 1]), [1, 0])

    def test_a_call_of_no_numbers_between_others(self):
        self.assertEqual(answers([7, 7, 2, 7, 7, 7, 6, 7, 8, 7]), [3, 0, 0, 0, 3, 0, 0, 0, 1, 1, 3, 0, 0, 0, 1, 7, 3, 0, 0, 0])

    def test_whole_numbers_in_a_list(self):
        calls = [sample(5, 1), age(110), count(0, 7), count(0, 0), summed(0, 7), most(0, 7), most(7, 9), edges(), buckets(0)]
        found = answers(flat(calls + [buckets(1), buckets(2), begin(1, 1, 0, 0, 0)]))
        self.assertIs(type(found), list)
        self.assertEqual({type(number) for number in found}, {int})

    def test_200_calls(self):
        self.assertEqual(answers([2, 1, 1] * 200), [1, 1] * 200)
        self.assertEqual(answers([7] * 200), [3, 0, 0, 0] * 200)
        self.assertEqual(answers([8, 1] * 200), [1, 0] * 200)
        self.assertEqual(answers([5, 0, TOP, 6, 0, TOP] * 100), [2, 0, 0, 1, -4] * 100)

    def test_200_calls_of_all_kinds(self):
        calls = [begin(1, 2, 0, 50, 1000)] + [sample(time, time) for time in range(0, 50)] + [age(50)]
        calls += [buckets(0), edges(), summed(3, 7), most(3, 7), count(3, 7), buckets(1), buckets(2)] * 21 + [age(49)]
        self.assertEqual(len(calls), 200)
        parts = parted(answers(flat(calls)))
        rows = [number for time in range(50) for number in (time, 1, time, time, time, time, time)]
        self.assertEqual(parts[:52], [[0]] + [[i] for i in range(1, 51)] + [[0, 50, 0]])
        self.assertEqual(parts[52:], [[50] + rows, [50, 0, 0], [18, 18], [6], [4, 4], [0], [-1]] * 21 + [[0, 50, 0]])

    def test_1200_numbers(self):
        self.assertEqual(answers([1, 1, 1, 1, 1, 1] * 200), [1, 0] * 200)
        self.assertEqual(answers(([1] + [TOP] * 5) * 200), [1, -1] * 200)
        self.assertEqual(answers([1, 10, 60, 100, 600, 6000, 1, 0, 0, 0, 0, 0] * 100), [1, 0, 1, -1] * 100)

    def test_the_largest_numbers(self):
        self.assertEqual(
            answers([1] + [TOP] * 5 + [2, TOP, TOP, 3, TOP, 4, TOP, TOP, 4, 0, TOP]),
            [1, -1, 1, -1, 1, -1, 1, -1, 2, 0, 0],
        )
        self.assertEqual(
            answers([5, TOP, TOP, 5, 0, TOP, 5, TOP - 1, TOP, 6, TOP, TOP, 6, TOP - 1, TOP, 8, TOP]),
            [1, -1, 2, 0, 0, 2, 0, 0, 1, -1, 1, -4, 1, -1],
        )

    def test_a_million_and_one_more(self):
        calls = [sample(MILLION, MILLION), sample(MILLION + 1, 0), sample(0, MILLION + 1), sample(0, 0)]
        for ask in (count, summed, most):
            calls += [ask(0, MILLION), ask(0, MILLION + 1), ask(MILLION, MILLION + 1), ask(MILLION + 1, TOP)]
        self.assertEqual(parted(answers(flat(calls))), [
            [1], [-1], [-1], [2], [1, 1], [2, 2], [1, 1], [0, 0], [0, 0], [MILLION] * 2, [MILLION] * 2, [0, 0],
            [0], [MILLION], [MILLION], [-4],
        ])


class NothingKept(unittest.TestCase):
    def lines(self):
        for seed in range(40):
            chance = random.Random(seed)
            calls = []
            for step in range(60):
                calls.append(chance.choice((
                    sample(chance.randrange(200), chance.randrange(3)),
                    sample(chance.randrange(200), chance.randrange(3)),
                    age(chance.randrange(400)),
                    count(chance.randrange(100), chance.randrange(200)),
                    summed(chance.randrange(100), chance.randrange(200)),
                    most(chance.randrange(100), chance.randrange(200)),
                    edges(),
                    buckets(chance.randrange(3)),
                    begin(5, 10 + chance.randrange(2) * 5, 10, chance.randrange(8, 40), 100),
                )))
            yield flat(calls)

    def test_the_list_handed_in_is_not_changed(self):
        for line in self.lines():
            before = list(line)
            answers(line)
            self.assertEqual(line, before)

    def test_not_for_a_while_either(self):
        class Watched(list):
            def changed(self, *given):
                raise AssertionError("the list is changed")
            append = extend = insert = pop = remove = clear = reverse = sort = changed
            __setitem__ = __delitem__ = __iadd__ = __imul__ = changed

        for line in self.lines():
            self.assertEqual(answers(Watched(line)), answers(line))

    def test_the_same_list_gives_the_same(self):
        lines = list(self.lines())
        first = [answers(line) for line in lines]
        self.assertEqual([answers(line) for line in lines], first)
        self.assertEqual([answers(line) for line in reversed(lines)], first[::-1])

    def test_what_is_given_back_is_the_callers_own(self):
        line = [2, 5, 1, 3, 110]
        first = answers(line)
        first.clear()
        self.assertEqual(answers(line), [1, 1, 3, 0, 1, 0])

    def test_a_new_house_each_time(self):
        self.assertEqual(answers([2, 5, 1]), [1, 1])
        self.assertEqual(coarsekept.house.answers([2, 5, 2, 4, 0, 9]), [1, 1, 2, 1, 1])
        self.assertEqual(answers([2, 5, 2, 3, 7000, 7]), [1, 1, 3, 0, 0, 0, 3, 6900, 6360, 960])
        self.assertEqual(answers([7, 8, 0, 5, 0, 9, 6, 0, 9]), [3, 0, 0, 0, 1, 0, 2, 0, 0, 1, -4])


if __name__ == "__main__":
    unittest.main()
