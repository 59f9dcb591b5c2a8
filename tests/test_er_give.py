import unittest

from callmaker import FULL, LARGEST, WRONG, back, days, give, last, make, run, start, tail, use


class TestErGive(unittest.TestCase):
    def test_items_are_numbered_from_0_as_they_came(self):
        calls = [start(2), give(5, 1), give(5, 2), make(0, 1, 0), give(0, 4)]
        self.assertEqual(run(*calls), [0, 0, 1, 2, 3])

    def test_a_refused_give_takes_no_number(self):
        self.assertEqual(run(start(2), give(64, 1), give(0, 0), give(0, 1)), [0, WRONG, WRONG, 0])

    def test_person(self):
        for person, answer in ((0, 0), (63, 0), (64, WRONG), (2**32, WRONG), (LARGEST, WRONG)):
            self.assertEqual(last(start(2), give(person, 1)), answer, person)

    def test_purposes(self):
        cases = ((0, WRONG), (1, 0), (2, 0), (65535, 0), (65536, WRONG), (65537, WRONG), (LARGEST, WRONG))
        for purposes, answer in cases:
            self.assertEqual(last(start(2), give(0, purposes)), answer, purposes)

    def test_until(self):
        for until, answer in ((0, 0), (1, 0), (100000, 0), (100001, WRONG), (LARGEST, WRONG)):
            self.assertEqual(last(start(2), give(0, 1, until)), answer, until)

    def test_until_today_and_the_day_before(self):
        calls = [start(2), days(7), give(0, 1, 6), give(0, 1, 0), give(0, 1, 7), give(0, 1, 8)]
        self.assertEqual(tail(4, *calls), [WRONG, WRONG, 0, 1])

    def test_what_is_given_has_just_its_purposes(self):
        uses = [use(0, purpose) for purpose in range(16)]
        self.assertEqual(tail(16, start(2), give(0, 0b1000000000000101), *uses), [1, -13, 1, *[-13] * 12, 1])

    def test_the_128th_is_taken_and_the_129th_refused(self):
        gives = [give(number % 64, 1) for number in range(129)]
        self.assertEqual(run(start(2), *gives), [0, *range(128), FULL])

    def test_erased_items_are_counted_among_the_128(self):
        calls = [start(2), *[give(0, 1)] * 127, *[back(number, 1) for number in range(127)], give(0, 1), give(0, 1)]
        self.assertEqual(tail(2, *calls), [127, FULL])

    def test_made_items_are_counted_among_the_128(self):
        self.assertEqual(tail(2, start(2), give(0, 1), *[make(0, 1, 0)] * 126, give(0, 1), give(0, 1)), [127, FULL])

    def test_wrong_is_answered_before_full(self):
        full = [start(2), *[give(0, 1)] * 128]
        for wrong in (give(64, 1), give(0, 0), give(0, 65536), give(0, 1, 100001), give(LARGEST, LARGEST, LARGEST)):
            self.assertEqual(tail(2, *full, wrong, give(0, 1)), [WRONG, FULL])

    def test_a_person_may_give_more_than_once(self):
        self.assertEqual(tail(3, start(2), give(1, 1), give(1, 2), back(0, 1), use(0, 0), use(1, 1)), [1, -2, 1])


if __name__ == "__main__":
    unittest.main()
