import unittest

from callmaker import (
    ABSENT, ALL_TAKEN_BACK, COUNTED, LARGEST, NO_PURPOSES, PLAIN, WAS_OVER,
    back, days, give, last, line, make, of, person, run, start, tail, use, why,
)
from erasedall.desk import answers


class TestNeverSuchAnItem(unittest.TestCase):
    def test_it_is_refused_in_the_form_of_a_number(self):
        self.assertEqual(answers([0, 2, 8, 0]), [2, 0, 0, 2, 0, -2])
        self.assertEqual(answers([0, 2, 1, 0, 1, 0, 8, 1, 8, LARGEST])[6:], [2, 0, -2, 2, 0, -2])

    def test_any_item_behind_the_last(self):
        for item in (2, 3, 127, 128, 255, 2**32, LARGEST):
            self.assertEqual(last(start(2), give(0, 1), make(PLAIN, 1, 0), why(item)), ABSENT, item)

    def test_one_whose_giving_or_making_was_refused(self):
        calls = [start(2), give(0, 1), give(64, 1), why(1), make(PLAIN, 2, 0), why(1)]
        self.assertEqual(tail(3, *calls), [ABSENT, -13, ABSENT])

    def test_one_from_before_starting_again(self):
        calls = [start(2), give(0, 1), give(0, 1), back(1, 1), start(2), why(0), why(1), give(0, 4), why(0), why(1)]
        self.assertEqual(tail(5, *calls), [ABSENT, ABSENT, 0, (0, 4, 1, 0), ABSENT])

    def test_the_128th(self):
        self.assertEqual(tail(2, start(2), *[give(0, 1)] * 128, why(127), why(128)), [(0, 1, 1, 0), ABSENT])


class TestThere(unittest.TestCase):
    def test_the_whole_answer(self):
        self.assertEqual(answers([0, 2, 1, 0, 5, 0, 8, 0])[6:], [5, 1, 0, 5, 1, 0])

    def test_a_given_item(self):
        for purposes in (1, 2, 40000, 65535):
            self.assertEqual(last(start(2), give(0, purposes), why(0)), (0, purposes, 1, 0))

    def test_the_last_number_is_0_on_a_later_day_too(self):
        self.assertEqual(last(start(2), give(0, 1, 7), days(7), why(0)), (0, 1, 1, 0))

    def test_how_many_given_ones_are_in_it(self):
        calls = [start(9), give(0, 1), give(0, 1), give(1, 1), make(PLAIN, 1, 0, 1), make(COUNTED, 1, 3, 2, 0)]
        self.assertEqual(tail(3, *calls, make(PLAIN, 1, 4, 3), why(3), why(4)), [5, (0, 1, 2, 0), (0, 1, 3, 0)])

    def test_one_that_is_in_it_by_two_ways_is_one(self):
        calls = [start(9), give(0, 1), make(PLAIN, 1, 0), make(PLAIN, 1, 0), make(PLAIN, 1, 2, 1, 0), why(3)]
        self.assertEqual(last(*calls), (0, 1, 1, 0))

    def test_a_made_item_with_fewer_purposes_than_its_parts(self):
        for kind in (PLAIN, COUNTED):
            calls = [start(2), give(0, 7), make(kind, 5, 0), make(kind, 4, 1), why(0), why(1), why(2)]
            self.assertEqual(tail(3, *calls), [(0, 7, 1, 0), (0, 5, 1, 0), (0, 4, 1, 0)])

    def test_after_some_purposes_were_taken_back(self):
        calls = [start(9), give(0, 15), give(1, 15), make(PLAIN, 7, 0, 1), make(COUNTED, 3, 2), back(0, 1), back(1, 12)]
        asked = [why(item) for item in range(4)]
        self.assertEqual(tail(4, *calls, *asked), [(0, 14, 1, 0), (0, 3, 1, 0), (0, 2, 2, 0), (0, 2, 2, 0)])

    def test_purposes_that_it_was_not_given_for_are_none_of_it(self):
        self.assertEqual(last(start(2), give(0, 6), back(0, 65531), why(0)), (0, 4, 1, 0))

    def test_a_counted_one_with_nothing_in_it(self):
        calls = [start(2), give(0, 7), give(1, 7), make(COUNTED, 3, 0, 1), make(PLAIN, 1, 2), make(COUNTED, 2, 2)]
        asked = [why(2), why(3), why(4)]
        there = [(0, 3, 0, 0), (0, 1, 0, 0), (0, 2, 0, 0)]
        self.assertEqual(tail(3, *calls, *asked), there)
        self.assertEqual(tail(3, *calls, back(0, 7), person(1), days(101), *asked), there)

    def test_of_one_with_nothing_in_it_and_of_a_given_one(self):
        calls = [start(2), give(0, 7), give(1, 7), make(COUNTED, 3, 0, 1), make(PLAIN, 1, 2, 1), why(3)]
        self.assertEqual(last(*calls), (0, 1, 1, 0))

    def test_as_many_given_ones_as_there_may_be(self):
        gives = [give(number % 63, 1) for number in range(112)]
        eights = [make(PLAIN, 1, *range(8 * row, 8 * row + 8)) for row in range(14)]
        calls = [start(64), *gives, *eights, make(COUNTED, 1, *range(112, 120)), make(PLAIN, 1, *range(120, 127))]
        self.assertEqual(tail(2, *calls, why(126), why(127)), [(0, 1, 64, 0), (0, 1, 112, 0)])


class TestNoPurposes(unittest.TestCase):
    def test_the_whole_answer(self):
        self.assertEqual(answers(line([start(2), give(0, 5), days(3), back(0, 5), why(0)]))[-6:], [5, 1, 1, 1, 0, 3])

    def test_a_given_one_and_what_was_made_of_it(self):
        calls = [start(9), give(1, 3), give(0, 3), make(PLAIN, 2, 0, 1), make(COUNTED, 2, 2), days(4), back(1, 2)]
        erased = (1, NO_PURPOSES, 1, 4)
        self.assertEqual(tail(4, *calls, *[why(item) for item in range(4)]), [(0, 3, 1, 0), (0, 1, 1, 0), erased, erased])

    def test_taken_back_at_several_one_after_another(self):
        calls = [start(9), give(0, 7), give(1, 7), give(2, 7), make(PLAIN, 7, 0, 1, 2)]
        for order in ((0, 1, 2), (0, 2, 1), (1, 0, 2), (1, 2, 0), (2, 0, 1), (2, 1, 0)):
            backs = []
            for purpose, item in enumerate(order):
                backs += [back(item, 1 << purpose), days(1)]
            self.assertEqual(last(*calls, *backs, why(3)), (1, NO_PURPOSES, order[-1], 2), order)

    def test_the_one_of_which_the_last_were_taken_back_though_another_lost_as_many(self):
        calls = [start(9), give(0, 3), give(1, 3), make(PLAIN, 3, 0, 1), back(0, 1), back(1, 1), back(1, 2), why(2)]
        self.assertEqual(last(*calls), (1, NO_PURPOSES, 1, 0))

    def test_the_same_item_twice(self):
        calls = [start(2), give(0, 3), make(PLAIN, 3, 0), days(2), back(0, 1), days(3), back(0, 2), days(4), why(0)]
        self.assertEqual(tail(2, *calls, why(1)), [(1, NO_PURPOSES, 0, 5), (1, NO_PURPOSES, 0, 5)])


class TestAllTakenBack(unittest.TestCase):
    def test_the_whole_answer(self):
        self.assertEqual(answers(line([start(2), give(9, 5), days(3), person(9), why(0)]))[-6:], [5, 1, 1, 2, 0, 3])

    def test_a_given_one_and_what_was_made_of_it(self):
        calls = [start(9), give(1, 3), give(0, 3), make(PLAIN, 2, 0, 1), make(COUNTED, 2, 2), days(4), person(0)]
        erased = (1, ALL_TAKEN_BACK, 1, 4)
        self.assertEqual(tail(4, *calls, *[why(item) for item in range(4)]), [(0, 3, 1, 0), erased, erased, erased])

    def test_of_several_of_the_person_the_least_number(self):
        calls = [start(9), give(1, 1), give(0, 1), give(1, 1), give(0, 1), give(0, 1)]
        for parts, by in (((4, 3, 2, 0), 3), ((4, 0), 4), ((3, 1, 4), 1), ((0, 1, 2, 3, 4), 1)):
            self.assertEqual(last(*calls, make(PLAIN, 1, *parts), person(0), why(5)), (1, ALL_TAKEN_BACK, by, 0), parts)

    def test_each_given_one_is_erased_by_itself(self):
        calls = [start(9), give(0, 1), give(0, 1), make(PLAIN, 1, 1), make(PLAIN, 1, 2, 0), person(0)]
        expected = [(1, ALL_TAKEN_BACK, by, 0) for by in (0, 1, 1, 0)]
        self.assertEqual(tail(4, *calls, *[why(item) for item in range(4)]), expected)

    def test_the_least_number_comes_late_in_a_nested_one(self):
        calls = [start(9), give(0, 1), give(0, 1), make(PLAIN, 1, 1), make(PLAIN, 1, 0), make(PLAIN, 1, 2, 3)]
        self.assertEqual(last(*calls, person(0), why(4)), (1, ALL_TAKEN_BACK, 0, 0))

    def test_one_that_is_behind_a_counted_one_of_many_is_not_named(self):
        calls = [start(2), give(0, 1), give(1, 1), give(0, 1), make(COUNTED, 1, 0, 1), make(PLAIN, 1, 3, 2), person(0)]
        self.assertEqual(tail(2, *calls, why(3), why(4)), [(0, 1, 0, 0), (1, ALL_TAKEN_BACK, 2, 0)])

    def test_of_one_that_was_given_after_the_first_time(self):
        calls = [start(2), give(0, 1), days(1), person(0), give(0, 1), days(1), person(0), why(0), why(1)]
        self.assertEqual(tail(2, *calls), [(1, ALL_TAKEN_BACK, 0, 1), (1, ALL_TAKEN_BACK, 1, 2)])


class TestWasOver(unittest.TestCase):
    def test_the_whole_answer(self):
        self.assertEqual(answers(line([start(2), give(0, 5, 3), days(4), why(0)]))[-6:], [5, 1, 1, 3, 0, 4])

    def test_a_given_one_and_what_was_made_of_it(self):
        calls = [start(9), give(1, 3), give(0, 3, 6), make(PLAIN, 2, 0, 1), make(COUNTED, 2, 2), days(4), days(3)]
        erased = (1, WAS_OVER, 1, 7)
        self.assertEqual(tail(4, *calls, *[why(item) for item in range(4)]), [(0, 3, 1, 0), erased, erased, erased])

    def test_the_day_where_several_go_at_once(self):
        for n in (6, 7, 100, 366):
            self.assertEqual(last(start(2), give(0, 1, 5), days(n), why(0)), (1, WAS_OVER, 0, 6), n)
        self.assertEqual(last(start(2), give(0, 1, 0), days(366), why(0)), (1, WAS_OVER, 0, 1))

    def test_the_day_where_days_went_before(self):
        calls = [start(2), days(200), give(0, 1, 250), days(50), days(300), why(0)]
        self.assertEqual(last(*calls), (1, WAS_OVER, 0, 251))

    def test_different_last_days_within_one_call(self):
        for first, second, by, day in ((2, 5, 0, 3), (5, 2, 1, 3), (0, 1, 0, 1), (1, 0, 1, 1), (4, 4, 0, 5)):
            for parts in ((0, 1), (1, 0)):
                calls = [start(9), give(0, 1, first), give(1, 1, second), make(PLAIN, 1, *parts), days(30), why(2)]
                self.assertEqual(last(*calls), (1, WAS_OVER, by, day), (first, second))

    def test_each_is_erased_by_the_earliest_that_is_in_it(self):
        calls = [
            start(9), give(0, 1, 8), give(1, 1, 4), give(2, 1, 6),
            make(PLAIN, 1, 0, 2), make(COUNTED, 1, 3, 1), make(PLAIN, 1, 0), days(366),
        ]
        expected = [(1, WAS_OVER, by, day) for by, day in ((0, 9), (1, 5), (2, 7), (2, 7), (1, 5), (0, 9))]
        self.assertEqual(tail(6, *calls, *[why(item) for item in range(6)]), expected)

    def test_of_several_that_were_over_on_one_day_the_least_number(self):
        calls = [start(9), give(0, 1, 9), give(1, 1, 3), give(2, 1, 3), give(3, 1, 3), give(4, 1, 2)]
        for parts, by in (((3, 2, 1, 0), 1), ((0, 3, 2), 2), ((3, 0), 3)):
            for n in (4, 5, 20):
                self.assertEqual(last(*calls, make(PLAIN, 1, *parts), days(n), why(5)), (1, WAS_OVER, by, 4), parts)

    def test_over_before_all_is_taken_back(self):
        calls = [start(9), give(0, 1, 3), give(1, 1, 9), make(PLAIN, 1, 0, 1), days(4), person(1), why(2), why(1)]
        self.assertEqual(tail(2, *calls), [(1, WAS_OVER, 0, 4), (1, ALL_TAKEN_BACK, 1, 4)])


class TestItStaysAsItWasTold(unittest.TestCase):
    CALLS = [start(9), give(0, 1, 5), give(1, 1, 7), give(0, 1, 9), make(PLAIN, 1, 0, 1, 2)]

    def test_no_purposes_first(self):
        later = [days(1), person(0), days(1), back(1, 1), days(366)]
        self.assertEqual(last(*self.CALLS, back(2, 1), *later, why(3)), (1, NO_PURPOSES, 2, 0))
        self.assertEqual(last(*self.CALLS, back(2, 1), *later, why(2)), (1, NO_PURPOSES, 2, 0))

    def test_all_taken_back_first(self):
        later = [days(1), person(0), person(1), days(1), give(0, 1), person(0), days(366)]
        self.assertEqual(last(*self.CALLS, days(2), person(1), *later, why(3)), (1, ALL_TAKEN_BACK, 1, 2))
        self.assertEqual(last(*self.CALLS, days(2), person(1), *later, why(1)), (1, ALL_TAKEN_BACK, 1, 2))

    def test_over_first(self):
        later = [back(2, 1), person(0), person(1), days(366)]
        self.assertEqual(last(*self.CALLS, days(6), *later, why(3)), (1, WAS_OVER, 0, 6))
        self.assertEqual(last(*self.CALLS, days(6), *later, why(0)), (1, WAS_OVER, 0, 6))

    def test_after_each_later_call(self):
        later = [days(3), give(0, 1), make(PLAIN, 1, 4), back(0, 1), person(0), person(1), days(366), of(0), start(65)]
        asked = line([[call, why(3)] for call in later])
        told = run(*self.CALLS, days(1), back(1, 1), *asked)
        self.assertEqual(told[-2 * len(later) + 1::2], [(1, NO_PURPOSES, 1, 1)] * len(later))

    def test_refused_calls_upon_it_change_nothing(self):
        calls = [start(2), give(0, 3), back(0, 3), days(2), back(0, 1), use(0, 0), make(PLAIN, 1, 0), why(0)]
        self.assertEqual(tail(4, *calls), [ABSENT, ABSENT, ABSENT, (1, NO_PURPOSES, 0, 0)])

    def test_asking_changes_nothing(self):
        calls = [start(2), give(0, 1, 5), why(0), why(1), why(0), use(0, 0), of(0), days(6), why(0), why(0), days(0)]
        self.assertEqual(
            tail(9, *calls),
            [(0, 1, 1, 0), ABSENT, (0, 1, 1, 0), 1, 1, 1, (1, WAS_OVER, 0, 6), (1, WAS_OVER, 0, 6), 0],
        )


if __name__ == "__main__":
    unittest.main()
