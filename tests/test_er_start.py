import unittest

from callmaker import COUNTED, LARGEST, WRONG, back, days, give, last, make, of, person, run, start, tail, use, why


class TestErStart(unittest.TestCase):
    def test_many_from_2_to_64_is_taken(self):
        for many in range(2, 65):
            self.assertEqual(run(start(many)), [0], many)

    def test_many_outside_is_refused(self):
        for many in (0, 1, 65, 66, 128, 65536, 2**32 + 2, LARGEST):
            self.assertEqual(run(start(many)), [WRONG], many)

    def test_a_refused_start_may_be_followed_by_one_that_is_taken(self):
        self.assertEqual(run(start(1), start(65), start(2), give(0, 1)), [WRONG, WRONG, 0, 0])

    def test_starting_again_leaves_no_items(self):
        calls = [start(2), give(0, 1), give(1, 1), start(2), use(0, 0), use(1, 0), back(0, 1), make(0, 1, 0)]
        self.assertEqual(run(*calls), [0, 0, 1, 0, -2, -2, -2, -2])
        calls = [start(2), give(0, 1), give(1, 1), start(2), of(0), person(0), why(0), days(366)]
        self.assertEqual(tail(5, *calls), [0, 0, 0, -2, 0])

    def test_starting_again_numbers_from_0(self):
        self.assertEqual(run(start(2), give(0, 1), give(1, 1), start(3), give(2, 1)), [0, 0, 1, 0, 0])

    def test_starting_again_makes_room_for_128_items(self):
        gives = [give(0, 1)] * 128
        self.assertEqual(run(start(2), *gives, start(2), *gives, give(0, 1))[-130:], [0, *range(128), -28])

    def test_starting_again_forgets_what_was_taken_back(self):
        self.assertEqual(tail(2, start(2), give(0, 3), back(0, 1), start(2), give(0, 3), use(0, 0)), [0, 1])

    def test_starting_again_takes_the_new_many(self):
        counted_of_two = [give(0, 1), give(1, 1), make(COUNTED, 1, 0, 1), back(0, 1)]
        self.assertEqual(last(start(2), *counted_of_two), 1)
        self.assertEqual(last(start(2), start(3), *counted_of_two), 2)
        self.assertEqual(last(start(3), start(2), *counted_of_two), 1)

    def test_starting_again_is_at_day_0(self):
        calls = [start(2), days(7), start(2), give(0, 1, 0), days(1), why(0)]
        self.assertEqual(tail(4, *calls), [0, 0, 1, (1, 3, 0, 1)])

    def test_a_refused_start_keeps_the_items(self):
        for many in (0, 1, 65, LARGEST):
            calls = [start(2), give(0, 3), give(1, 1), back(0, 2), start(many), use(0, 0), use(0, 1), give(2, 1)]
            self.assertEqual(tail(4, *calls), [WRONG, 1, -13, 2])

    def test_a_refused_start_keeps_many(self):
        counted_of_two = [give(0, 1), give(1, 1), make(COUNTED, 1, 0, 1), back(0, 1)]
        self.assertEqual(last(start(2), start(65), *counted_of_two), 1)
        self.assertEqual(last(start(3), start(1), *counted_of_two), 2)

    def test_a_refused_start_keeps_the_day(self):
        calls = [start(2), days(7), start(65), give(0, 1, 6), give(0, 1, 7), days(1), why(0)]
        self.assertEqual(tail(5, *calls), [WRONG, WRONG, 0, 1, (1, 3, 0, 8)])


if __name__ == "__main__":
    unittest.main()
