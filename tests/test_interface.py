"""The interface: what is handed in, what is given back, what is kept."""

import copy
import unittest

from lines import TICK, LineTest, line, link, parcel_bytes, put, sent, start, ticks
from parcelpasses.nodes import UnknownCall, answers


class Watched(list):
    """A list that refuses to be changed, for a while either."""

    def refuse(self, *given):
        raise AssertionError("what was handed in was changed")

    append = extend = insert = pop = remove = clear = sort = reverse = refuse
    __setitem__ = __delitem__ = __iadd__ = __imul__ = refuse


def busy_line():
    links = [link(0, 1, 2, 0, 20), link(1, 2, 3, 5, 30), link(2, 0, 40)]
    return line([start(1, 0), start(3, 0, links), put(2, 60, [1, 2, 3]), put(1, 9), put(0, 9), *ticks(8),
                 start(3, 3), put(1, 20, [4] * 48), *ticks(30), start(2, 1, [link(0, 1)]), put(0, 4), *ticks(6)])


class Interface(LineTest):
    def test_the_form_of_the_answers(self):
        calls = [0, 2, 0, 6, 0, 1, 3, 0, 2, 9, 1, 1, 20, 2, 7, 8, 1, 0, 20, 0, 2, 2]
        message = [1, 0, 1, 2, 1, 0, 0, 0, 20, 0, 0, 0, 1, 0, 0, 0, 7, 8]
        self.assertEqual(answers(calls), [1, 0, 1, 1, 1, -22, 1, 0, 21, 1, 0, 18] + message)

    def test_one_call_alone(self):
        self.assertEqual(answers([0, 2, 0, 0]), [1, 0])
        self.assertEqual(answers([0, 0, 0, 0]), [1, -22])

    def test_a_list_of_ints_is_given_back(self):
        told = answers(busy_line())
        self.assertIs(type(told), list)
        self.assertEqual({type(each) for each in told}, {int})

    def test_what_was_handed_in_stays_as_it_was(self):
        calls = busy_line()
        before = copy.deepcopy(calls)
        told = answers(calls)
        self.assertEqual(calls, before)
        self.assertEqual(answers(Watched(calls)), told)

    def test_nothing_is_kept(self):
        first = answers(busy_line())
        answers(line([start(2, 0, [link(0, 1)]), *[put(1, 900)] * 64, *ticks(50)]))
        self.assertEqual(answers(busy_line()), first)

    def test_what_is_given_back_is_new_each_time(self):
        calls = busy_line()
        first = answers(calls)
        kept = list(first)
        first.clear()
        self.assertEqual(answers(calls), kept)

    def test_what_follows_does_not_change_what_was_answered(self):
        calls = [start(2, 0, [link(0, 1)]), put(1, 50, [1]), TICK]
        longer = calls + [put(1, 40, [2]), *ticks(9), start(2, 1)]
        short = answers(line(calls))
        self.assertEqual(answers(line(longer))[:len(short)], short)

    def test_a_thousand_calls(self):
        told = answers(line([start(2, 0, [link(0, 1, 200, 999, 1000)]), put(1, 1198), *ticks(998)]))
        self.assertEqual(told, [1, 0, 1, 1] + [1, 0] * 998)
        message = sent((0, parcel_bytes(0, 1, 1, 1199, 1)))
        told = answers(line([start(2, 0, [link(0, 1, 200, 998, 1000)]), put(1, 1199), *ticks(998)]))
        self.assertEqual(told[-1 - len(message):], [len(message)] + message)

    def test_a_full_plan_and_a_full_node_for_a_thousand_calls(self):
        links = [link(k % 31, k % 31 + 1, 1 + k % 7, k, 900 + k) for k in range(128)]
        puts = [put(1 + k % 31, 990 - k) for k in range(64)]
        told = answers(line([start(32, 0, links), *puts, *ticks(935)]))
        self.assertLess(len(told), 1000000)

    def test_no_such_call(self):
        with self.assertRaises(UnknownCall):
            answers([0, 2, 0, 0, 6])


if __name__ == "__main__":
    unittest.main()
