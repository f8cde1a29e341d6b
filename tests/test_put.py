"""Promise 2: nd_put."""

import unittest

from lines import TICK, WHOLE_MOST, LineTest, ask, link, parcel_bytes, put, sent, start, ticks


class Put(LineTest):
    def test_numbers_rise_from_1(self):
        self.check((start(3, 1), [0]), (put(0, 5), [1]), (put(2, 7, [1, 2]), [2]), (put(0, 5), [3]))

    def test_numbers_rise_on_behind_parcels_that_went(self):
        self.check((start(2, 0), [0]), (put(1, 1), [1]), (TICK, [0]), (TICK, [0]), (put(1, 3), [2]))

    def test_to_is_another_node(self):
        self.check((start(3, 1), [0]), (put(0, 5), [1]), (put(2, 5), [2]), (put(1, 5), [-22]),
                   (put(3, 5), [-22]), (put(WHOLE_MOST, 5), [-22]))
        self.check((start(32, 0), [0]), (put(31, 5), [1]), (put(32, 5), [-22]), (put(0, 5), [-22]))

    def test_end_is_above_the_time(self):
        self.check((start(2, 0), [0]), (put(1, 0), [-22]), (put(1, 1), [1]))
        told = ask(start(2, 0), *ticks(7), put(1, 6), put(1, 7), put(1, 8))
        self.assertEqual(told[-3:], [[-22], [-22], [1]])

    def test_end_is_at_most_a_million(self):
        self.check((start(2, 0), [0]), (put(1, 1000000), [1]), (put(1, 1000001), [-22]),
                   (put(1, WHOLE_MOST), [-22]))

    def test_data_has_at_most_48_bytes(self):
        self.check((start(2, 0), [0]), (put(1, 5, [0] * 48), [1]), (put(1, 5, [0] * 49), [-22]),
                   (put(1, 5, [0] * 60), [-22]), (put(1, 5), [2]))

    def test_at_most_64_are_held(self):
        told = ask(start(2, 0), *[put(1, 5)] * 66)
        self.assertEqual(told, [[0]] + [[number] for number in range(1, 65)] + [[-28], [-28]])

    def test_there_is_room_again_when_some_went(self):
        told = ask(start(2, 0), *[put(1, 9)] * 63, put(1, 1), put(1, 9), TICK, put(1, 9), TICK, put(1, 9),
                   put(1, 9))
        self.assertEqual(told[64:], [[64], [-28], [0], [-28], [0], [65], [-28]])

    def test_what_is_sent_is_held_still(self):
        told = ask(start(2, 0, [link(0, 1)]), *[put(1, 9)] * 64, TICK, put(1, 9))
        self.assertEqual(told[-2][0], 1)
        self.assertEqual(told[-1], [-28])

    def test_not_as_told_is_answered_before_full(self):
        full = [start(2, 0), TICK] + [put(1, 9)] * 64
        told = ask(*full, put(0, 9), put(2, 9), put(1, 1), put(1, 1000001), put(1, 9, [0] * 49), put(1, 9))
        self.assertEqual(told[-6:], [[-22]] * 5 + [[-28]])

    def test_a_refusal_changes_nothing(self):
        wrong = [put(0, 5), put(2, 5), put(1, 0), put(1, 1000001), put(1, 5, [7] * 49)]
        told = ask(start(2, 0, [link(0, 1)]), *wrong, put(1, 5), *wrong, put(1, 5), TICK, TICK, TICK)
        self.assertEqual(told[6], [1])
        self.assertEqual(told[12:], [[2], sent((0, parcel_bytes(0, 1, 1, 5, 1))),
                                     sent((0, parcel_bytes(0, 1, 2, 5, 1))),
                                     sent((0, parcel_bytes(0, 1, 1, 5, 1)))])

    def test_refusals_take_no_room_and_no_number(self):
        told = ask(start(2, 0), *[put(0, 5)] * 70, *[put(1, 1)] * 64, *[put(1, 5)] * 3, TICK, TICK, put(1, 5))
        self.assertEqual(told[71:135], [[number] for number in range(1, 65)])
        self.assertEqual(told[135:], [[-28]] * 3 + [[0], [0], [65]])

    def test_it_does_not_wait_and_has_leg_0(self):
        self.check((start(2, 0, [link(0, 1, 9)]), [0]), (put(1, 20, [8, 255, 0]), [1]),
                   (TICK, sent((0, parcel_bytes(0, 1, 1, 20, 1, [8, 255, 0])))))


if __name__ == "__main__":
    unittest.main()
