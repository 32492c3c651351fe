"""The interface: how answers are given back, that what is handed in stays, and that nothing is kept."""

import unittest

from helper import alone, away, begin, group, look, member, of, off, on, quick, time, upcoming
from readtimes.plan import answers


class Fixed(list):
    """A list that can't be changed."""

    def refuse(self, *numbers):
        raise AssertionError("what is handed in was changed")

    append = extend = insert = pop = remove = clear = sort = reverse = refuse
    __setitem__ = __delitem__ = __iadd__ = __imul__ = refuse


CALLS = sum((
    group(1, 0, burst=2, gap=5, slack=100), member(3, 1, 0), member(2, 1, 0), on(1, 0), time(1003),
    on(2, 1003), alone(99, 1003), away(1, 3000), on(1, 3000), time(2999), begin(), time(0),
    group(4, 0, period=5000), on(4, 0), quick(4, 0, 1500), upcoming(), time(1000), member(8, 4, 1000), look(4), of(4),
    off(4, 5000), upcoming(), look(16), of(5), look(4),
), [])
TOLD = [
    1, 0, 1, 0, 1, 0, 1, 0, 10, 2, 1, 1, 1, 2, 1, 1000, 2, 2, 3,
    1, -2, 1, -1, 10, 2, 1, 1, 3, 2, 1, 3000, 2, 2, 3, 1, -2, 1, -4, 1, 0, 1, 0,
    1, 0, 1, 0, 1, 0, 2, 0, 1000, 5, 1, 2, 4, 1000, 0, 1, 0, 6, 0, 1, 1001, 1500, 1, 0, 2, 1, 8,
    6, 1, 2, 4, 5000, 1, 8, 1, -2, 1, -2, 1, -2, 6, 0, 0, 5001, 1500, 2, 0,
]


class Interface(unittest.TestCase):
    def test_each_answer_behind_how_many_numbers_it_has(self):
        self.assertEqual(answers(list(CALLS)), TOLD)

    def test_calls_as_they_are_written(self):
        self.assertEqual(
            answers([1, 2, 4, 2000, 1000, 500, 1, 1, 0, 0, 4, 9, 4, 0, 6, 4, 0, 5, 8, 500, 3, 4, 2501]),
            [1, 0, 1, 0, 1, 0, 1, 0, 6, 1, 2, 4, 500, 1, 9, 4, 1, 1, 4, 1],
        )

    def test_later_calls_as_they_are_written(self):
        self.assertEqual(
            answers([
                2, 4, 2000, 1000, 500, 1, 1, 0, 0, 6, 4, 0, 8, 4, 500, 2000, 10, 9, 1500, 7, 4, 1600, 11, 4, 12, 4,
            ]),
            [1, 0, 1, 0, 5, 1, 2, 4, 500, 0, 2, 0, 1500, 5, 1, 2, 4, 1500, 0, 1, 0, 6, 0, 0, 1601, 2000, 2, 0, 1, 0],
        )

    def test_one_call(self):
        told = [answers(call) for call in ([1], [7, 0, 0], [8, 0, 0, 1], [9, 0], [10], [11, 0], [12, 0])]
        self.assertEqual(told, [[1, 0], [1, -2], [1, -2], [1, 0], [1, -2], [1, -2], [1, -2]])

    def test_kinds(self):
        told = answers(list(CALLS))
        self.assertIs(type(told), list)
        self.assertEqual({type(number) for number in told}, {int})

    def test_what_is_handed_in_stays(self):
        handed = Fixed(CALLS)
        self.assertEqual(answers(handed), TOLD)
        self.assertEqual(list(handed), CALLS)

    def test_what_is_given_back_is_not_what_was_handed_in(self):
        handed = [1]
        answers(handed).append(7)
        self.assertEqual(handed, [1])

    def test_nothing_is_kept(self):
        self.assertEqual([answers(CALLS) for _ in range(3)], [TOLD] * 3)
        self.assertEqual(answers(group(1, 0) + member(0, 1, 0) + on(1, 900)), [1, 0] * 3)
        self.assertEqual(answers(on(1, 0)), [1, -2])
        self.assertEqual(answers(time(0)), [1, 0])

    def test_three_hundred_calls(self):
        calls = group(1, 0) + on(1, 0)
        for step in range(1, 299):
            calls += time(step * 1000)
        told = [1, 0, 1, 0]
        for step in range(1, 299):
            told += [5, 1, 2, 1, step * 1000, 0]
        self.assertEqual(answers(calls), told)


if __name__ == "__main__":
    unittest.main()
