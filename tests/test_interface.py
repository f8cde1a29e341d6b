"""The interface: what is handed in, what is given back, what is kept."""

import copy
import unittest

from lines import (
    READ, STATE, TICK, LineTest, ask, heard, kept_bytes, line, link, parcel_bytes, put, sent, split, start, ticks)
from parcelpasses.nodes import UnknownCall, answers


class Watched(list):
    """A list that refuses to be changed, for a while either."""

    def refuse(self, *given):
        raise AssertionError("what was handed in was changed")

    append = extend = insert = pop = remove = clear = sort = reverse = refuse
    __setitem__ = __delitem__ = __iadd__ = __imul__ = refuse


def busy_line():
    links = [link(0, 1, 2, 0, 20), link(1, 2, 3, 5, 30), link(2, 0, 40)]
    return line([start(1, 0), start(3, 0, links), put(2, 60, [1, 2, 3]), put(1, 9), put(0, 9), *ticks(8),
                 start(3, 3), put(1, 20, [4] * 48), *ticks(30), heard(0, parcel_bytes(1, 0, 5, 60, 2, [6, 7])),
                 heard(2, parcel_bytes(1, 2, 5, 60, 2, [8])), heard(1, []), heard(0, []), STATE, READ, READ,
                 heard(0, kept_bytes(1, 5, 3)), STATE, TICK, start(2, 1, [link(0, 1)]), put(0, 4), *ticks(6)])


class Interface(LineTest):
    def test_the_form_of_the_answers(self):
        calls = [0, 2, 0, 6, 0, 1, 3, 0, 2, 9, 1, 1, 20, 2, 7, 8, 1, 0, 20, 0, 2, 2]
        message = [1, 0, 1, 2, 1, 0, 0, 0, 20, 0, 0, 0, 1, 0, 0, 0, 7, 8]
        self.assertEqual(answers(calls), [1, 0, 1, 1, 1, -22, 1, 0, 21, 1, 0, 18] + message)

    def test_the_form_of_the_answers_of_all_six_calls(self):
        calls = [0, 2, 0, 6, 0, 1, 3, 0, 0, 9]
        calls += [3, 0, 18, 1, 1, 0, 2, 5, 0, 0, 0, 20, 0, 0, 0, 1, 0, 0, 0, 7, 8]
        calls += [5, 4, 4, 5, 1, 1, 20, 0, 3, 0, 12, 2, 0, 0, 0, 1, 0, 0, 0, 1, 0, 0, 0, 5, 3, 1, 0, 3, 0, 0, 2]
        told = [1, 0]
        told += [15, 0, 0, 12, 2, 1, 0, 0, 5, 0, 0, 0, 1, 0, 0, 0]
        told += [5, 0, 0, 0, 1, 1, 6, 3, 1, 5, 20, 7, 8, 1, 0, 5, 0, 0, 0, 0, 1, 1, 1, 1, 0, 5, 0, 0, 0, 0, 1]
        told += [1, -22, 1, -71, 1, 0]
        self.assertEqual(answers(calls), told)

    def test_one_call_alone(self):
        self.assertEqual(answers([0, 2, 0, 0]), [1, 0])
        self.assertEqual(answers([0, 0, 0, 0]), [1, -22])

    def test_a_list_of_ints_is_given_back(self):
        told = answers(busy_line())
        self.assertIs(type(told), list)
        self.assertEqual({type(each) for each in told}, {int})

    def test_what_was_handed_in_stays_as_it_was(self):
        calls = busy_line()
        before = copy.deepcopy(calls)
        told = answers(calls)
        self.assertEqual(calls, before)
        self.assertEqual(answers(Watched(calls)), told)

    def test_nothing_is_kept(self):
        first = answers(busy_line())
        full = [heard(0, parcel_bytes(1, 0, number, 900, 1)) for number in range(1, 65)]
        answers(line([start(2, 0, [link(0, 1)]), *[put(1, 900)] * 64, *full, *ticks(50)]))
        self.assertEqual(answers(busy_line()), first)

    def test_what_is_given_back_is_new_each_time(self):
        calls = busy_line()
        first = answers(calls)
        kept = list(first)
        first.clear()
        self.assertEqual(answers(calls), kept)

    def test_what_follows_does_not_change_what_was_answered(self):
        calls = [start(2, 0, [link(0, 1)]), put(1, 50, [1]), TICK]
        calls += [heard(0, parcel_bytes(1, 0, 5, 60, 2, [6, 7])), STATE, READ]
        longer = calls + [put(1, 40, [2]), heard(0, kept_bytes(0, 1, 1)), *ticks(9), start(2, 1)]
        short = answers(line(calls))
        self.assertEqual(answers(line(longer))[:len(short)], short)

    def test_a_thousand_calls(self):
        told = answers(line([start(2, 0, [link(0, 1, 200, 999, 1000)]), put(1, 1198), *ticks(998)]))
        self.assertEqual(told, [1, 0, 1, 1] + [1, 0] * 998)
        message = sent((0, parcel_bytes(0, 1, 1, 1199, 1)))
        told = answers(line([start(2, 0, [link(0, 1, 200, 998, 1000)]), put(1, 1199), *ticks(998)]))
        self.assertEqual(told[-1 - len(message):], [len(message)] + message)

    def test_a_full_plan_and_a_full_node_for_a_thousand_calls(self):
        links = [link(k % 31, k % 31 + 1, 1 + k % 7, k, 900 + k) for k in range(128)]
        puts = [put(1 + k % 31, 990 - k) for k in range(64)]
        told = answers(line([start(32, 0, links), *puts, *ticks(935)]))
        self.assertLess(len(told), 1000000)

    def test_a_thousand_calls_of_all_six(self):
        calls = [start(3, 0, [link(0, 1), link(0, 2, 2)])]
        for number in range(1, 112):
            calls += [put(2, 900, [number]), heard(0, parcel_bytes(1, 0, number, 900, 1, [number])),
                      heard(0, parcel_bytes(1, 2, number, 900, 1)), TICK, READ, STATE,
                      heard(0, kept_bytes(0, number, 1)), heard(0, kept_bytes(1, number, 2)), heard(0, [])]
        self.assertEqual(len(calls), 1000)
        told = ask(*calls)
        self.assertEqual(told[-9:-3], [[111], [0, 0, 12] + kept_bytes(1, 111, 1), [0, 0, 12] + kept_bytes(1, 111, 1),
                                       sent((1, parcel_bytes(0, 2, 111, 900, 1, [111]))), [2, 1, 111, 900, 111],
                                       [0, 111, 2, 0, 111]])
        self.assertEqual(told[-3:], [[0], [0], [-71]])

    def test_calls_as_long_as_they_may_be(self):
        # 340 messages of 80 bytes, and a plan with 780 numbers.
        calls = [start(2, 0, [link(0, 1)] * 130), start(2, 0, [link(0, 1)])] + [heard(0, [1] * 80)] * 340
        self.assertLessEqual(len(line(calls)), 30000)
        self.assertEqual(ask(*calls), [[-22], [0]] + [[-71]] * 340)

    def test_how_many_numbers_are_answered(self):
        calls = [start(2, 0, [link(0, 1)]), heard(0, parcel_bytes(1, 0, 5, 60, 2, [6, 7])), STATE, READ, READ]
        told = answers(line(calls))
        self.assertEqual([len(part) for part in split(told)], [1, 15, 5, 6, 1])
        self.assertEqual(len(told), 5 + 28)

    def test_no_such_call(self):
        with self.assertRaises(UnknownCall):
            answers([0, 2, 0, 0, 6])


if __name__ == "__main__":
    unittest.main()
