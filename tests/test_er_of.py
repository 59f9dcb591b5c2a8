import unittest

from callmaker import (
    COUNTED, LARGEST, PLAIN, WRONG,
    back, days, give, last, make, of, person, run, start, tail, use, why,
)


def everyone(*people):
    return [of(p) for p in people]


class TestErOf(unittest.TestCase):
    def test_person(self):
        for p, answer in ((0, 0), (62, 0), (63, 1), (64, WRONG), (65, WRONG), (127, WRONG), (2**32 + 63, WRONG),
                          (LARGEST, WRONG)):
            self.assertEqual(last(start(2), give(63, 1), of(p)), answer, p)

    def test_no_item_at_all(self):
        self.assertEqual(run(start(2), of(0), of(63)), [0, 0, 0])

    def test_given_items(self):
        calls = [start(2), give(0, 1), give(1, 2), give(0, 4), give(63, 65535)]
        self.assertEqual(tail(4, *calls, *everyone(0, 1, 2, 63)), [2, 1, 0, 1])

    def test_plain_items_and_those_made_of_these(self):
        calls = [start(2), give(0, 1), give(1, 1), make(PLAIN, 1, 0), make(PLAIN, 1, 0, 1), make(PLAIN, 1, 3, 2)]
        self.assertEqual(tail(3, *calls, *everyone(0, 1, 2)), [4, 3, 0])

    def test_counted_ones_of_too_few(self):
        calls = [start(3), give(0, 1), give(1, 1), make(COUNTED, 1, 0, 1), make(PLAIN, 1, 2), make(COUNTED, 1, 3)]
        self.assertEqual(tail(2, *calls, *everyone(0, 1)), [4, 4])

    def test_counted_ones_of_as_many_as_many(self):
        calls = [start(2), give(0, 1), give(1, 1), make(COUNTED, 1, 0, 1), make(PLAIN, 1, 2), make(COUNTED, 1, 3)]
        self.assertEqual(tail(2, *calls, *everyone(0, 1)), [1, 1])

    def test_made_of_one_that_tells_of_nobody_and_of_one_that_tells(self):
        calls = [start(2), give(0, 1), give(1, 1), make(COUNTED, 1, 0, 1), make(PLAIN, 1, 2, 0), make(COUNTED, 1, 2, 1)]
        self.assertEqual(tail(2, *calls, *everyone(0, 1)), [2, 2])

    def test_counted_ones_of_too_few_that_are_many_together(self):
        calls = [start(3), give(0, 1), give(1, 1), give(2, 1), make(COUNTED, 1, 0, 1), make(COUNTED, 1, 3, 2)]
        self.assertEqual(tail(3, *calls, *everyone(0, 1, 2)), [2, 2, 1])

    def test_an_item_with_several_of_this_person_is_one_item(self):
        calls = [start(3), give(0, 1), give(0, 1), give(0, 1), make(PLAIN, 1, 0, 1, 2), make(COUNTED, 1, 0, 1, 3)]
        self.assertEqual(last(*calls, of(0)), 5)

    def test_many_people_one_of_them_twice(self):
        gives = [start(3), give(0, 1), give(1, 1), give(0, 1)]
        self.assertEqual(tail(2, *gives, make(COUNTED, 1, 0, 1, 2), *everyone(0, 1)), [3, 2])
        self.assertEqual(tail(2, *gives, give(2, 1), make(COUNTED, 1, 0, 1, 2, 3), *everyone(0, 2)), [2, 1])

    def test_what_is_erased_is_not_counted(self):
        calls = [start(3), give(0, 3), give(0, 1, 5), give(1, 3), make(PLAIN, 2, 0, 2), make(PLAIN, 1, 1)]
        self.assertEqual(tail(2, *calls, *everyone(0, 1)), [4, 2])
        self.assertEqual(tail(3, *calls, back(0, 2), *everyone(0, 1)), [1, 3, 1])
        self.assertEqual(tail(3, *calls, back(0, 3), *everyone(0, 1)), [2, 2, 1])
        self.assertEqual(tail(3, *calls, days(6), *everyone(0, 1)), [2, 2, 2])
        self.assertEqual(tail(3, *calls, person(1), *everyone(0, 1)), [2, 3, 0])

    def test_who_takes_back_all_is_in_nothing_that_is_there(self):
        calls = [start(2), give(0, 1), give(1, 1), give(0, 1), make(PLAIN, 1, 0, 1), make(COUNTED, 1, 1, 2)]
        self.assertEqual(tail(4, *calls, of(0), person(0), of(0), of(1)), [3, 3, 0, 1])

    def test_what_is_given_after_taking_back_all(self):
        calls = [start(2), give(0, 1), person(0), give(0, 1), make(PLAIN, 1, 1), of(0)]
        self.assertEqual(last(*calls), 2)

    def test_purposes_do_not_matter_while_one_is_left(self):
        self.assertEqual(tail(2, start(2), give(0, 7), back(0, 3), of(0)), [0, 1])

    def test_asking_changes_nothing(self):
        calls = [start(2), give(0, 1, 5), of(0), of(64), of(0), use(0, 0), why(0), days(5), use(0, 0)]
        self.assertEqual(tail(7, *calls), [1, WRONG, 1, 1, (0, 1, 1, 0), 0, 1])

    def test_starting_again(self):
        self.assertEqual(tail(2, start(2), give(0, 1), start(2), of(0)), [0, 0])

    def test_128_items(self):
        self.assertEqual(last(start(2), give(5, 1), *[make(PLAIN, 1, item) for item in range(127)], of(5)), 128)


if __name__ == "__main__":
    unittest.main()
