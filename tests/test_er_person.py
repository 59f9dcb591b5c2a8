import unittest

from callmaker import (
    ABSENT, ALL_TAKEN_BACK, COUNTED, FULL, LARGEST, PLAIN, WRONG,
    back, days, give, last, make, of, person, run, start, tail, use, why,
)


class TestRefusals(unittest.TestCase):
    def test_person(self):
        for p, answer in ((0, 0), (62, 0), (63, 1), (64, WRONG), (65, WRONG), (127, WRONG), (2**32 + 63, WRONG),
                          (LARGEST, WRONG)):
            self.assertEqual(last(start(2), give(63, 1), person(p)), answer, p)

    def test_a_refused_one_changes_nothing(self):
        calls = [start(2), give(0, 3), give(63, 3), make(PLAIN, 1, 0, 1)]
        asked = [use(0, 0), use(1, 1), use(2, 0), of(0), of(63), why(0), why(1), why(2)]
        for p in (64, 128, LARGEST):
            self.assertEqual(
                tail(9, *calls, person(p), *asked),
                [WRONG, 1, 1, 1, 2, 2, (0, 3, 1, 0), (0, 3, 1, 0), (0, 1, 2, 0)],
            )


class TestErPerson(unittest.TestCase):
    def test_a_person_who_gave_nothing(self):
        self.assertEqual(run(start(2), person(0)), [0, 0])
        self.assertEqual(tail(2, start(2), give(0, 1), person(1), use(0, 0)), [0, 1])

    def test_all_that_the_person_gave(self):
        calls = [start(2), give(0, 1), give(1, 1), give(0, 65535), give(0, 2, 0), person(0)]
        self.assertEqual(tail(5, *calls, *[use(item, 0) for item in range(4)]), [3, ABSENT, 1, ABSENT, ABSENT])

    def test_made_ones_and_those_made_of_these(self):
        calls = [
            start(64), give(0, 1), give(1, 1),
            make(PLAIN, 1, 0), make(PLAIN, 1, 2), make(COUNTED, 1, 3, 1), make(PLAIN, 1, 4), make(PLAIN, 1, 1),
        ]
        uses = [use(item, 0) for item in range(7)]
        self.assertEqual(tail(8, *calls, person(0), *uses), [5, -2, 1, -2, -2, -2, -2, 1])
        self.assertEqual(tail(8, *calls, person(1), *uses), [4, 1, -2, 1, 1, -2, -2, -2])

    def test_of_this_person_and_of_others_too(self):
        calls = [start(9), *[give(p, 1) for p in range(8)], make(PLAIN, 1, *range(8))]
        for p in range(8):
            self.assertEqual(tail(2, *calls, person(p), use(8, 0)), [2, ABSENT], p)
            self.assertEqual(tail(7, *calls, person(p), *[use(item, 0) for item in range(8) if item != p]), [1] * 7)

    def test_an_item_with_several_of_this_person_is_counted_once(self):
        calls = [start(2), give(0, 1), give(0, 1), give(0, 1), make(PLAIN, 1, 0, 1, 2), make(COUNTED, 1, 3, 0)]
        self.assertEqual(last(*calls, person(0)), 5)

    def test_whatever_purposes_are_left(self):
        calls = [start(2), give(0, 65535), back(0, 1), make(PLAIN, 2, 0), person(0), use(0, 15), use(1, 1)]
        self.assertEqual(tail(3, *calls), [2, ABSENT, ABSENT])

    def test_what_was_erased_before_is_not_counted_again(self):
        calls = [start(2), give(0, 1), give(0, 1), give(0, 1, 4), make(PLAIN, 1, 0, 1), back(0, 1), days(5)]
        self.assertEqual(tail(3, *calls, person(0)), [2, 1, 1])

    def test_twice(self):
        calls = [start(2), give(0, 1), make(PLAIN, 1, 0), person(0), person(0), use(0, 0), use(1, 0)]
        self.assertEqual(tail(4, *calls), [2, 0, ABSENT, ABSENT])

    def test_one_person_behind_another(self):
        calls = [start(3), give(0, 1), give(1, 1), make(PLAIN, 1, 0, 1), person(0), person(1), person(0)]
        self.assertEqual(tail(3, *calls), [2, 1, 0])

    def test_what_this_person_gives_afterwards_stays(self):
        calls = [start(2), give(0, 1), person(0), give(0, 1), make(PLAIN, 1, 1), use(0, 0), use(1, 0), use(2, 0)]
        self.assertEqual(tail(6, *calls), [1, 1, 2, ABSENT, 1, 1])
        self.assertEqual(tail(3, *calls, days(3), of(0), why(1)), [0, 2, (0, 1, 1, 0)])

    def test_twice_with_something_given_in_between(self):
        calls = [start(2), give(0, 1), person(0), give(0, 1), give(0, 1), person(0), use(1, 0), use(2, 0)]
        self.assertEqual(tail(3, *calls), [2, ABSENT, ABSENT])

    def test_who_takes_back_all_before_giving_anything_may_give(self):
        self.assertEqual(tail(3, start(2), person(0), give(0, 1), use(0, 0)), [0, 0, 1])

    def test_starting_again_forgets_it(self):
        self.assertEqual(tail(3, start(2), give(0, 1), person(0), start(2), give(0, 1), use(0, 0)), [0, 0, 1])

    def test_a_long_row_of_items_each_made_of_the_one_before(self):
        calls = [start(2), give(0, 1)] + [make(PLAIN, 1, number) for number in range(127)]
        self.assertEqual(tail(2, *calls, person(0), use(127, 0)), [128, ABSENT])

    def test_128_items_of_one_person(self):
        self.assertEqual(tail(2, start(2), *[give(63, 1)] * 128, person(63), person(63)), [128, 0])


class TestErasedByIt(unittest.TestCase):
    ERASED = [start(2), give(0, 3), give(1, 3), make(PLAIN, 3, 0, 1), person(0)]

    def test_use_back_and_make_are_refused(self):
        for item in (0, 2):
            calls = [use(item, 0), use(item, 16), back(item, 1), back(item, 0), make(PLAIN, 1, item),
                     make(COUNTED, 1, 1, item), use(1, 0)]
            self.assertEqual(tail(7, *self.ERASED, *calls), [*[ABSENT] * 6, 1])

    def test_they_are_counted_among_the_128(self):
        calls = [start(2), *[give(0, 1)] * 127, person(0), give(0, 1), give(0, 1), make(PLAIN, 1, 127)]
        self.assertEqual(tail(4, *calls), [127, 127, FULL, FULL])


class TestCounted(unittest.TestCase):
    def test_of_as_many_people_as_many_it_stays(self):
        for many in (2, 3, 8):
            gives = [give(p, 1) for p in range(many)]
            calls = [start(many), *gives, make(COUNTED, 1, *range(many)), *[person(p) for p in range(many)]]
            self.assertEqual(tail(many + 2, *calls, use(many, 0), why(many)), [1] * (many + 1) + [(0, 1, 0, 0)])

    def test_of_one_fewer_it_goes(self):
        for many in (2, 3, 8):
            fewer = many - 1
            gives = [give(p, 1) for p in range(fewer)]
            calls = [start(many), *gives, make(COUNTED, 1, *range(fewer)), person(fewer - 1), use(fewer, 0)]
            self.assertEqual(tail(2, *calls), [2, ABSENT])

    def test_many_items_of_too_few_people(self):
        calls = [start(3), give(0, 1), give(1, 1), give(0, 1), make(COUNTED, 1, 0, 1, 2), person(0), use(3, 0)]
        self.assertEqual(tail(2, *calls), [3, ABSENT])

    def test_many_people_one_of_them_twice(self):
        calls = [start(2), give(0, 1), give(0, 1), give(1, 1), make(COUNTED, 1, 0, 1, 2)]
        self.assertEqual(tail(4, *calls, person(0), use(3, 0), person(1), use(3, 0)), [2, 1, 1, 1])

    def test_of_64_people(self):
        gives = [give(p, 1) for p in range(64)]
        eights = [make(PLAIN, 1, *range(8 * row, 8 * row + 8)) for row in range(8)]
        calls = [start(64), *gives, *eights, make(COUNTED, 1, *range(64, 72)), make(COUNTED, 1, *range(64, 71))]
        self.assertEqual(tail(3, *calls, person(0), use(72, 0), use(73, 0)), [3, 1, ABSENT])

    def test_what_is_made_of_one_that_stays_stays(self):
        for kind in (PLAIN, COUNTED):
            calls = [start(2), give(0, 1), give(1, 1), make(COUNTED, 1, 0, 1), make(kind, 1, 2)]
            self.assertEqual(tail(4, *calls, person(0), person(1), use(2, 0), use(3, 0)), [1, 1, 1, 1])

    def test_a_part_beside_one_that_stays_still_tells(self):
        calls = [start(2), give(0, 1), give(1, 1), make(COUNTED, 1, 0, 1), make(PLAIN, 1, 2, 0)]
        self.assertEqual(tail(4, *calls, person(1), use(3, 0), person(0), why(3)), [1, 1, 2, (1, ALL_TAKEN_BACK, 0, 0)])

    def test_plain_of_a_counted_one_of_too_few_goes(self):
        calls = [start(3), give(0, 1), give(1, 1), make(COUNTED, 1, 0, 1), make(PLAIN, 1, 2), person(1)]
        self.assertEqual(tail(4, *calls, use(0, 0), use(2, 0), use(3, 0)), [3, 1, ABSENT, ABSENT])

    def test_counted_of_counted_ones_of_too_few_that_are_many_together(self):
        calls = [
            start(3), give(0, 1), give(1, 1), give(2, 1),
            make(COUNTED, 1, 0, 1), make(COUNTED, 1, 3, 2), person(0), use(3, 0), use(4, 0),
        ]
        self.assertEqual(tail(3, *calls), [2, ABSENT, 1])

    def test_people_who_went_do_not_count_for_what_is_made_later(self):
        calls = [start(2), give(0, 1), give(1, 1), person(0), make(COUNTED, 1, 1), why(2), person(1), use(2, 0)]
        self.assertEqual(tail(4, *calls), [2, (0, 1, 1, 0), 2, ABSENT])


if __name__ == "__main__":
    unittest.main()
