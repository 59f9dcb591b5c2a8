import unittest

from callmaker import (
    ABSENT, COUNTED, DENIED, FULL, LARGEST, PLAIN, WRONG,
    back, give, last, make, run, start, tail, use,
)

NINE = [start(2)] + [give(number, 65535) for number in range(9)]
FULL_HOUSE = [start(2)] + [give(0, 3)] * 128


class TestErMake(unittest.TestCase):
    def test_kind(self):
        for kind, answer in ((PLAIN, 9), (COUNTED, 9), (2, WRONG), (256, WRONG), (2**32, WRONG), (LARGEST, WRONG)):
            self.assertEqual(last(*NINE, make(kind, 1, 0)), answer, kind)

    def test_purposes(self):
        cases = ((0, WRONG), (1, 9), (65535, 9), (65536, WRONG), (65537, WRONG), (LARGEST, WRONG))
        for kind in (PLAIN, COUNTED):
            for purposes, answer in cases:
                self.assertEqual(last(*NINE, make(kind, purposes, 0)), answer, purposes)

    def test_how_many_parts(self):
        for count, answer in ((0, WRONG), (1, 9), (2, 9), (7, 9), (8, 9), (9, WRONG)):
            for kind in (PLAIN, COUNTED):
                self.assertEqual(last(*NINE, make(kind, 1, *range(count))), answer, count)

    def test_twelve_parts(self):
        self.assertEqual(last(*NINE, *[give(0, 1)] * 3, make(PLAIN, 1, *range(12))), WRONG)

    def test_more_than_eight_parts_may_be_any_numbers(self):
        for count in (9, 10, 11, 12):
            self.assertEqual(tail(2, *NINE, make(PLAIN, 1, *[LARGEST] * count), use(0, 0)), [WRONG, 1])

    def test_an_item_that_stands_twice(self):
        for of in ((0, 0), (0, 1, 0), (1, 2, 2), (7, 1, 2, 3, 4, 5, 6, 7)):
            self.assertEqual(last(*NINE, make(PLAIN, 1, *of)), WRONG, of)

    def test_parts_come_in_any_order(self):
        self.assertEqual(tail(2, *NINE, make(PLAIN, 1, 8, 0, 3), back(3, 1)), [9, 1])
        self.assertEqual(tail(2, *NINE, make(PLAIN, 1, 8, 0, 3), back(3, 65535)), [9, 2])

    def test_an_item_that_never_was(self):
        for of in ((9,), (255,), (0, 9), (9, 0), (0, 1, 255, 2)):
            self.assertEqual(last(*NINE, make(PLAIN, 1, *of)), ABSENT, of)

    def test_an_item_is_no_part_of_itself(self):
        self.assertEqual(last(start(2), make(PLAIN, 1, 0)), ABSENT)

    def test_an_item_that_is_erased(self):
        for of in ((0,), (1, 0), (0, 1)):
            self.assertEqual(last(*NINE, back(0, 65535), make(PLAIN, 1, *of)), ABSENT, of)

    def test_a_made_item_that_is_erased(self):
        calls = [start(2), give(0, 3), make(PLAIN, 1, 0), back(0, 1), make(PLAIN, 2, 0), make(PLAIN, 2, 1)]
        self.assertEqual(tail(3, *calls), [1, 2, ABSENT])

    def test_a_part_that_has_not_all_these_purposes(self):
        calls = [start(2), give(0, 3), give(1, 6)]
        for purposes, of, answer in (
            (1, (0,), 2), (3, (0,), 2), (2, (0, 1), 2), (7, (0,), DENIED), (4, (0,), DENIED),
            (3, (0, 1), DENIED), (1, (0, 1), DENIED), (6, (1, 0), DENIED), (4, (0, 1), DENIED),
        ):
            for kind in (PLAIN, COUNTED):
                self.assertEqual(last(*calls, make(kind, purposes, *of)), answer, (purposes, of))

    def test_a_part_of_which_a_purpose_was_taken_back(self):
        calls = [start(2), give(0, 3), make(PLAIN, 3, 0), back(0, 1)]
        for purposes, answer in ((1, DENIED), (3, DENIED), (2, 2)):
            self.assertEqual(last(*calls, make(PLAIN, purposes, 0)), answer)
            self.assertEqual(last(*calls, make(PLAIN, purposes, 1)), answer)

    def test_a_made_part_has_only_what_it_was_made_for(self):
        calls = [start(2), give(0, 7), make(PLAIN, 3, 0)]
        self.assertEqual(tail(2, *calls, make(PLAIN, 4, 1), make(PLAIN, 3, 1)), [DENIED, 2])

    def test_the_128th_is_made_and_the_129th_refused(self):
        calls = [start(2), give(0, 1)] + [make(number % 2, 1, number) for number in range(128)]
        self.assertEqual(run(*calls), [0, *range(128), FULL])

    def test_erased_items_are_counted_among_the_128(self):
        calls = [start(2), *[give(0, 1)] * 128, *[back(number, 1) for number in range(127)], make(PLAIN, 1, 127)]
        self.assertEqual(last(*calls), FULL)

    def test_a_refused_make_takes_no_number_and_changes_nothing(self):
        refused = [make(2, 1, 0), make(PLAIN, 1), make(PLAIN, 1, 0, 0), make(PLAIN, 1, 5), make(PLAIN, 4, 0)]
        calls = [start(2), give(0, 3), *refused, make(PLAIN, 1, 0), use(0, 0), use(0, 1), back(0, 3)]
        self.assertEqual(run(*calls), [0, 0, -22, -22, -22, -2, -13, 1, 1, 1, 2])


class TestOrderOfRefusals(unittest.TestCase):
    def test_wrong_before_absent(self):
        for wrong in (make(2, 1, 9), make(PLAIN, 0, 9), make(PLAIN, 65536, 9), make(PLAIN, 1, 200, 200)):
            self.assertEqual(last(*NINE, wrong), WRONG)

    def test_an_erased_item_that_stands_twice(self):
        self.assertEqual(last(*NINE, back(0, 65535), make(PLAIN, 1, 0, 0)), WRONG)

    def test_wrong_before_denied(self):
        calls = [start(2), give(0, 1)]
        for wrong in (make(2, 2, 0), make(PLAIN, 2, 0, 0), make(PLAIN, 65538, 0)):
            self.assertEqual(last(*calls, wrong), WRONG)

    def test_wrong_before_full(self):
        for wrong in (make(2, 1, 0), make(PLAIN, 0, 0), make(PLAIN, 1), make(PLAIN, 1, 0, 0), make(PLAIN, 1, *range(9))):
            self.assertEqual(last(*FULL_HOUSE, wrong), WRONG)

    def test_absent_before_denied_whichever_part_comes_first(self):
        calls = [start(2), give(0, 1), give(0, 3), back(1, 3)]
        for of in ((0, 1), (1, 0), (0, 9), (9, 0), (0, 9, 1)):
            self.assertEqual(last(*calls, make(PLAIN, 2, *of)), ABSENT, of)

    def test_absent_before_full(self):
        self.assertEqual(last(*FULL_HOUSE, make(PLAIN, 1, 128)), ABSENT)
        self.assertEqual(last(*FULL_HOUSE, back(5, 3), make(PLAIN, 1, 0, 5)), ABSENT)

    def test_denied_before_full(self):
        self.assertEqual(tail(2, *FULL_HOUSE, make(PLAIN, 4, 0), make(PLAIN, 3, 0)), [DENIED, FULL])

    def test_all_at_once(self):
        self.assertEqual(last(*FULL_HOUSE, make(LARGEST, LARGEST, *[LARGEST] * 12)), WRONG)
        self.assertEqual(last(*FULL_HOUSE, make(PLAIN, 4, 0, 255)), ABSENT)


if __name__ == "__main__":
    unittest.main()
