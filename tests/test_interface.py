import random
import unittest

import coarsekept.house
from coarsekept.house import answers
from helping import TOP, age, begin, count, flat, sample


class Form(unittest.TestCase):
    def test_how_many_numbers_then_these(self):
        self.assertEqual(
            answers([1, 10, 60, 100, 600, 6000, 2, 5, 7, 2, 25, 7, 3, 110, 4, 0, 30]),
            [1, 0, 1, 1, 1, 2, 3, 1, 1, 0, 2, 2, 2],
        )

    def test_a_refusal_is_its_number_alone(self):
        self.assertEqual(
            answers([1, 0, 0, 0, 0, 0, 3, 2000001, 4, 5, 5, 2, TOP, TOP, 3, 6060, 4, 0, 9, 2, 0, 0]),
            [1, -1, 1, -1, 1, -1, 1, -1, 3, 0, 0, 0, 1, -3, 1, -6],
        )

    def test_one_call(self):
        self.assertEqual(answers([3, 0]), [3, 0, 0, 0])
        self.assertEqual(answers([4, 0, 1]), [2, 0, 0])
        self.assertEqual(answers([2, 0, 0]), [1, 1])

    def test_whole_numbers_in_a_list(self):
        found = answers(flat([sample(5, 1), age(110), count(0, 7), count(0, 0), begin(1, 1, 0, 0, 0)]))
        self.assertIs(type(found), list)
        self.assertEqual({type(number) for number in found}, {int})

    def test_200_calls(self):
        self.assertEqual(answers([2, 1, 1] * 200), [1, 1] * 200)
        self.assertEqual(answers([1, 1, 1, 1, 1, 1] * 200), [1, 0] * 200)

    def test_the_largest_numbers(self):
        self.assertEqual(
            answers([1] + [TOP] * 5 + [2, TOP, TOP, 3, TOP, 4, TOP, TOP, 4, 0, TOP]),
            [1, -1, 1, -1, 1, -1, 1, -1, 2, 0, 0],
        )


class NothingKept(unittest.TestCase):
    def lines(self):
        for seed in range(40):
            chance = random.Random(seed)
            calls = []
            for step in range(60):
                calls.append(chance.choice((
                    sample(chance.randrange(200), chance.randrange(3)),
                    sample(chance.randrange(200), chance.randrange(3)),
                    age(chance.randrange(400)),
                    count(chance.randrange(100), chance.randrange(200)),
                    begin(5, 10 + chance.randrange(2) * 5, 10, chance.randrange(8, 40), 100),
                )))
            yield flat(calls)

    def test_the_list_handed_in_is_not_changed(self):
        for line in self.lines():
            before = list(line)
            answers(line)
            self.assertEqual(line, before)

    def test_not_for_a_while_either(self):
        class Watched(list):
            def changed(self, *given):
                raise AssertionError("the list is changed")
            append = extend = insert = pop = remove = clear = reverse = sort = changed
            __setitem__ = __delitem__ = __iadd__ = __imul__ = changed

        for line in self.lines():
            self.assertEqual(answers(Watched(line)), answers(line))

    def test_the_same_list_gives_the_same(self):
        lines = list(self.lines())
        first = [answers(line) for line in lines]
        self.assertEqual([answers(line) for line in lines], first)
        self.assertEqual([answers(line) for line in reversed(lines)], first[::-1])

    def test_what_is_given_back_is_the_callers_own(self):
        line = [2, 5, 1, 3, 110]
        first = answers(line)
        first.clear()
        self.assertEqual(answers(line), [1, 1, 3, 0, 1, 0])

    def test_a_new_house_each_time(self):
        self.assertEqual(answers([2, 5, 1]), [1, 1])
        self.assertEqual(coarsekept.house.answers([2, 5, 2, 4, 0, 9]), [1, 1, 2, 1, 1])


if __name__ == "__main__":
    unittest.main()
