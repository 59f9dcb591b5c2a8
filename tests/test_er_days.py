import unittest

from callmaker import (
    ABSENT, COUNTED, FULL, LARGEST, PLAIN, WAS_OVER, WRONG,
    back, days, give, last, make, of, person, run, start, tail, use, why,
)

# Day 99,918; 82 more are just 100,000.
NEAR_THE_END = [start(2), *[days(366)] * 273]


class TestRefusals(unittest.TestCase):
    def test_n(self):
        cases = ((0, 0), (1, 0), (365, 0), (366, 0), (367, WRONG), (368, WRONG), (2**32, WRONG), (2**32 + 1, WRONG),
                 (99999, WRONG), (100000, WRONG), (100001, WRONG), (LARGEST, WRONG))
        for n, answer in cases:
            self.assertEqual(run(start(2), days(n)), [0, answer], n)

    def test_today_and_n_together(self):
        for n, answer in ((0, 0), (81, 0), (82, 0), (83, WRONG), (366, WRONG), (367, WRONG), (LARGEST, WRONG)):
            self.assertEqual(last(*NEAR_THE_END, days(n)), answer, n)

    def test_on_the_last_day_none_may_go(self):
        calls = [*NEAR_THE_END, give(0, 1, 100000), days(82), days(1), days(366), days(0), use(0, 0)]
        self.assertEqual(tail(6, *calls), [0, 0, WRONG, WRONG, 0, 1])

    def test_all_the_days_there_are(self):
        calls = [start(2), *[days(366)] * 274, days(82), days(1), give(0, 1, 99999), give(0, 1, 100000)]
        self.assertEqual(run(*calls), [0, *[0] * 273, WRONG, 0, WRONG, WRONG, 0])

    def test_a_refused_one_lets_no_day_go(self):
        calls = [start(2), give(0, 1, 0), make(PLAIN, 1, 0), give(1, 1, 5)]
        for n in (367, 100001, LARGEST):
            asked = [days(n), use(0, 0), use(1, 0), why(1), give(0, 1, 0), of(0)]
            self.assertEqual(tail(6, *calls, *asked), [WRONG, 1, 1, (0, 1, 1, 0), 3, 3], n)
        self.assertEqual(tail(3, *NEAR_THE_END, give(0, 1, 99918), days(83), use(0, 0)), [0, WRONG, 1])


class TestLastDays(unittest.TestCase):
    def test_no_day(self):
        self.assertEqual(tail(2, start(2), give(0, 1, 0), days(0), use(0, 0)), [0, 1])

    def test_a_day_that_is_just_the_last(self):
        for until in (0, 1, 5, 365, 366):
            calls = [start(2), give(0, 1, until), days(until), use(0, 0), days(1), use(0, 0)]
            self.assertEqual(tail(4, *calls), [0, 1, 1, ABSENT], until)

    def test_one_day_behind_the_last_at_once(self):
        for until in (0, 1, 5, 365):
            self.assertEqual(tail(2, start(2), give(0, 1, until), days(until + 1), use(0, 0)), [1, ABSENT], until)

    def test_366_days(self):
        calls = [start(2), give(0, 1, 365), give(0, 1, 366), give(0, 1, 367), days(366), why(0), why(1), why(2)]
        self.assertEqual(tail(4, *calls), [1, (1, WAS_OVER, 0, 366), (0, 1, 1, 0), (0, 1, 1, 0)])

    def test_day_by_day(self):
        calls = [start(2), give(0, 1, 1), give(0, 1, 3), give(1, 1, 3), *[days(1)] * 5]
        self.assertEqual(tail(5, *calls), [0, 1, 0, 2, 0])

    def test_several_last_days_within_one_call(self):
        calls = [start(2), *[give(0, 1, until) for until in range(10)], days(7)]
        self.assertEqual(tail(11, *calls, *[use(item, 0) for item in range(10)]), [7, *[ABSENT] * 7, 1, 1, 1])

    def test_till_day_100000_nothing_is_over(self):
        self.assertEqual(tail(2, *NEAR_THE_END, give(0, 1, 99999), give(0, 1, 100000), days(82), use(1, 0)), [1, 1])

    def test_made_ones_and_those_made_of_these(self):
        calls = [
            start(64), give(0, 1, 3), give(1, 1, 6),
            make(PLAIN, 1, 0), make(PLAIN, 1, 2), make(COUNTED, 1, 3, 1), make(PLAIN, 1, 4), make(PLAIN, 1, 1),
        ]
        uses = [use(item, 0) for item in range(7)]
        self.assertEqual(tail(8, *calls, days(3), *uses), [0, *[1] * 7])
        self.assertEqual(tail(8, *calls, days(4), *uses), [5, -2, 1, -2, -2, -2, -2, 1])
        self.assertEqual(tail(8, *calls, days(7), *uses), [7, *[-2] * 7])
        self.assertEqual(tail(3, *calls, days(4), days(2), days(1)), [5, 0, 2])

    def test_a_made_item_goes_with_the_earliest_that_is_in_it(self):
        for first, second in ((2, 9), (9, 2)):
            calls = [start(9), give(0, 1, first), give(1, 1, second), make(PLAIN, 1, 0, 1), days(2), days(1), use(2, 0)]
            self.assertEqual(tail(3, *calls), [0, 2, ABSENT])

    def test_an_item_with_several_that_are_over_is_counted_once(self):
        calls = [start(2), give(0, 1, 1), give(1, 1, 1), give(0, 1, 2), make(PLAIN, 1, 0, 1, 2), days(9), days(9)]
        self.assertEqual(tail(2, *calls), [4, 0])

    def test_what_was_erased_before_is_not_counted_again(self):
        calls = [start(2), give(0, 1, 1), give(1, 1, 1), give(2, 1, 1), make(PLAIN, 1, 0, 1, 2), back(0, 1), person(1)]
        self.assertEqual(tail(3, *calls, days(2)), [2, 1, 1])

    def test_other_items_are_left_as_they_were(self):
        calls = [start(2), give(0, 3, 1), give(0, 7, 2), make(PLAIN, 5, 1), back(1, 1), days(2), why(1), why(2)]
        self.assertEqual(tail(3, *calls), [1, (0, 6, 1, 0), (0, 4, 1, 0)])


class TestCounted(unittest.TestCase):
    def test_of_as_many_people_as_many_it_stays(self):
        for many in (2, 3, 8):
            gives = [give(p, 1, p) for p in range(many)]
            calls = [start(many), *gives, make(COUNTED, 1, *range(many)), make(PLAIN, 1, many), days(366)]
            self.assertEqual(tail(3, *calls, use(many, 0), use(many + 1, 0)), [many, 1, 1])

    def test_of_one_fewer_it_goes(self):
        for many in (2, 3, 8):
            fewer = many - 1
            gives = [give(p, 1, 9 - p) for p in range(fewer)]
            calls = [start(many), *gives, make(COUNTED, 1, *range(fewer)), days(11 - many), days(1), use(fewer, 0)]
            self.assertEqual(tail(3, *calls), [0, 2, ABSENT])

    def test_plain_of_a_counted_one_of_too_few_goes(self):
        calls = [start(3), give(0, 1, 9), give(1, 1, 4), make(COUNTED, 1, 0, 1), make(PLAIN, 1, 2), days(5)]
        self.assertEqual(tail(4, *calls, use(0, 0), use(2, 0), use(3, 0)), [3, 1, ABSENT, ABSENT])


class TestToday(unittest.TestCase):
    def test_giving_until_yesterday_today_and_tomorrow(self):
        for today in (1, 2, 7, 366):
            calls = [start(2), days(today)]
            self.assertEqual(last(*calls, give(0, 1, today - 1)), WRONG)
            self.assertEqual(last(*calls, give(0, 1, 0)), WRONG)
            self.assertEqual(tail(4, *calls, give(0, 1, today), use(0, 0), days(1), use(0, 0)), [0, 1, 1, ABSENT])
            self.assertEqual(tail(4, *calls, give(0, 1, today + 1), days(1), use(0, 0), days(1)), [0, 0, 1, 1])

    def test_days_are_added_up(self):
        calls = [start(2), days(3), days(0), days(4), give(0, 1, 6), give(0, 1, 7)]
        self.assertEqual(tail(2, *calls), [WRONG, 0])

    def test_wrong_is_answered_before_full_of_a_day_that_was(self):
        calls = [start(2), *[give(0, 1)] * 128, days(5), give(0, 1, 4), give(0, 1, 5)]
        self.assertEqual(tail(2, *calls), [WRONG, FULL])

    def test_starting_again_is_at_day_0(self):
        self.assertEqual(tail(3, start(2), days(9), start(2), give(0, 1, 0), use(0, 0)), [0, 0, 1])
        calls = [*NEAR_THE_END, days(82), start(3), days(366), give(0, 1, 365), give(0, 1, 366)]
        self.assertEqual(tail(4, *calls), [0, 0, WRONG, 0])

    def test_a_refused_start_keeps_the_day(self):
        calls = [start(2), days(9), start(65), give(0, 1, 8), give(0, 1, 9), start(1), days(1), why(0)]
        self.assertEqual(tail(6, *calls), [WRONG, WRONG, 0, WRONG, 1, (1, WAS_OVER, 0, 10)])


class TestErasedByIt(unittest.TestCase):
    ERASED = [start(2), give(0, 3, 4), give(1, 3), make(PLAIN, 3, 0, 1), days(5)]

    def test_use_back_and_make_are_refused(self):
        for item in (0, 2):
            calls = [use(item, 0), use(item, 16), back(item, 1), back(item, 0), make(PLAIN, 1, item),
                     make(COUNTED, 1, 1, item), use(1, 0)]
            self.assertEqual(tail(7, *self.ERASED, *calls), [*[ABSENT] * 6, 1])

    def test_they_are_counted_among_the_128(self):
        calls = [start(2), *[give(0, 1, 0)] * 127, days(1), give(0, 1), give(0, 1), make(PLAIN, 1, 127)]
        self.assertEqual(tail(4, *calls), [127, 127, FULL, FULL])


if __name__ == "__main__":
    unittest.main()
