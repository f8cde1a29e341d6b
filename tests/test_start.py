"""Promise 1: nd_start."""

import unittest

from lines import TICK, WHOLE_MOST, LineTest, ask, link, parcel_bytes, put, sent, start


class PlanAsTold(LineTest):
    def taken(self, n, me, links=()):
        self.assertEqual(ask(start(n, me, links)), [[0]])

    def refused(self, n, me, links=()):
        self.assertEqual(ask(start(n, me, links)), [[-22]])

    def test_plain_plan(self):
        self.taken(3, 1, [link(0, 1, 5, 0, 10), link(1, 2, 7, 3, 20)])

    def test_plan_without_passes(self):
        self.taken(2, 0)

    def test_how_many_nodes(self):
        for n in (2, 3, 31, 32):
            self.taken(n, 0)
        for n in (0, 1, 33, 256, WHOLE_MOST):
            self.refused(n, 0)

    def test_how_many_passes(self):
        for count in (1, 127, 128):
            self.taken(2, 0, [link(0, 1)] * count)
        for count in (129, 130):
            self.refused(2, 0, [link(0, 1)] * count)

    def test_ends_of_a_pass_are_nodes(self):
        self.taken(3, 0, [link(2, 0)])
        self.taken(3, 0, [link(0, 2)])
        self.taken(32, 0, [link(31, 30)])
        for wrong in (3, 4, 255):
            self.refused(3, 0, [link(wrong, 0)])
            self.refused(3, 0, [link(0, wrong)])

    def test_ends_of_a_pass_differ(self):
        for node in (0, 1, 2):
            self.refused(3, 0, [link(node, node)])

    def test_several_passes_between_the_same_nodes(self):
        self.taken(2, 0, [link(0, 1), link(1, 0), link(0, 1)])

    def test_none(self):
        for none in (1, 2, 255):
            self.refused(2, 0, [link(0, 1, none=none)])

    def test_takes(self):
        for takes in (1, 2, 254, 255):
            self.taken(2, 0, [link(0, 1, takes)])
        self.refused(2, 0, [link(0, 1, 0)])

    def test_begins_is_below_ends(self):
        for begins, ends in ((0, 1), (7, 8), (999999, 1000000)):
            self.taken(2, 0, [link(0, 1, 1, begins, ends)])
        for begins, ends in ((0, 0), (7, 7), (8, 7), (1000000, 1000000), (WHOLE_MOST, 5)):
            self.refused(2, 0, [link(0, 1, 1, begins, ends)])

    def test_ends_is_at_most_a_million(self):
        self.taken(2, 0, [link(0, 1, 1, 0, 1000000)])
        for ends in (1000001, WHOLE_MOST):
            self.refused(2, 0, [link(0, 1, 1, 0, ends)])

    def test_every_pass_counts(self):
        wrong = [link(0, 2), link(2, 0), link(1, 1), link(0, 1, 0), link(0, 1, none=1),
                 link(0, 1, 1, 5, 5), link(0, 1, 1, 0, 1000001)]
        for each in wrong:
            self.refused(2, 0, [link(0, 1), each])
            self.refused(2, 0, [each, link(0, 1)])
            self.refused(2, 0, [link(0, 1)] * 127 + [each])

    def test_me_is_a_node(self):
        for n, me in ((2, 0), (2, 1), (32, 31)):
            self.taken(n, me)
        for n, me in ((2, 2), (2, 3), (31, 31), (32, 32), (2, WHOLE_MOST)):
            self.refused(n, me)


class StartAgain(LineTest):
    def test_refused_ones_till_one_is_taken(self):
        self.check((start(1, 0), [-22]), (start(2, 2), [-22]), (start(2, 1), [0]), (put(0, 1), [1]))

    def test_time_is_0_again(self):
        self.check((start(2, 0), [0]), (TICK, [0]), (TICK, [0]), (put(1, 1), [-22]),
                   (start(2, 0), [0]), (put(1, 1), [1]))

    def test_own_numbers_begin_again(self):
        self.check((start(2, 0), [0]), (put(1, 9), [1]), (put(1, 9), [2]),
                   (start(2, 0), [0]), (put(1, 9), [1]))

    def test_nothing_is_held_any_more(self):
        told = ask(start(2, 0), *[put(1, 9)] * 65, start(2, 0), *[put(1, 9)] * 65)
        once = [[0]] + [[number] for number in range(1, 65)] + [[-28]]
        self.assertEqual(told, once + once)

    def test_what_was_held_is_not_sent(self):
        plan = [link(0, 1)]
        self.check((start(2, 0, plan), [0]), (put(1, 9), [1]), (start(2, 0, plan), [0]), (TICK, [0]))

    def test_the_new_plan_and_the_new_me_hold(self):
        self.check((start(2, 0, [link(0, 1)]), [0]), (start(3, 2, [link(0, 1), link(2, 1)]), [0]),
                   (put(2, 9), [-22]), (put(1, 9), [1]),
                   (TICK, sent((1, parcel_bytes(2, 1, 1, 9, 1)))))

    def test_a_refused_one_changes_nothing(self):
        wrong = [start(1, 0), start(3, 1, [link(0, 0)]), start(3, 3), start(2, 0, [link(0, 1, 0)])]
        for each in wrong:
            self.check((start(3, 0, [link(0, 2, 1, 3, 9)]), [0]), (put(2, 9), [1]), (TICK, [0]), (TICK, [0]),
                       (each, [-22]), (put(2, 2), [-22]), (put(2, 3), [2]), (put(0, 9), [-22]),
                       (TICK, sent((0, parcel_bytes(0, 2, 1, 9, 1)))))

    def test_a_refused_one_keeps_what_is_held(self):
        told = ask(start(2, 0), *[put(1, 9)] * 64, start(2, 2), put(1, 9))
        self.assertEqual(told[-2:], [[-22], [-28]])


if __name__ == "__main__":
    unittest.main()
