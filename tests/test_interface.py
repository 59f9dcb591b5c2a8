import unittest

from callmaker import COUNTED, LARGEST, PLAIN, back, days, give, line, make, of, person, run, start, use, why
from erasedall.desk import answers


class TestWholeLists(unittest.TestCase):
    def test_one_call(self):
        self.assertEqual(answers([0, 2]), [2, 0, 0])
        self.assertEqual(answers([0, 1]), [2, 0, -22])

    def test_each_call_once(self):
        self.assertEqual(
            answers([0, 2, 1, 0, 3, 10, 2, 0, 1, 1, 0, 3, 1, 0, 4, 0, 1, 8, 0, 8, 1, 7, 0, 6, 9, 5, 0, 8, 0, 8, 2]),
            [
                2, 0, 0, 2, 0, 0, 2, 0, 1, 2, 0, 1, 2, 0, 1,
                5, 1, 0, 2, 1, 0, 5, 1, 1, 1, 0, 0, 2, 0, 1, 2, 0, 0, 2, 0, 1, 5, 1, 1, 2, 0, 9, 2, 0, -2,
            ],
        )

    def test_a_whole_story(self):
        calls = [
            0, 2,                   # many is 2
            1, 0, 7, 5,             # item 0, of person 0, for purposes 0 to 2, till day 5
            1, 1, 3, 9,             # item 1, of person 1, for purposes 0 and 1, till day 9
            2, 0, 3, 2, 1, 0,       # item 2, plain, of both
            2, 1, 1, 2, 0, 1,       # item 3, counted, of both: it tells of nobody
            7, 0, 7, 1, 7, 2,       # person 0 is in items 0 and 2, person 1 in items 1 and 2
            4, 1, 1,                # purpose 0 of item 1 is taken back
            8, 2, 3, 2, 0, 3, 2, 1,
            6, 366,                 # items 0, 1 and 2 are over
            8, 0, 8, 1, 8, 2, 8, 3,
            1, 0, 1, 365, 1, 0, 1, 366, 5, 0, 8, 4, 5, 0,
        ]
        self.assertEqual(answers(calls), [
            2, 0, 0, 2, 0, 0, 2, 0, 1, 2, 0, 2, 2, 0, 3, 2, 0, 2, 2, 0, 2, 2, 0, 0, 2, 0, 0,
            5, 1, 0, 2, 2, 0, 2, 0, -13, 2, 0, 1, 2, 0, 3,
            5, 1, 1, 3, 0, 6, 5, 1, 1, 3, 1, 10, 5, 1, 1, 3, 0, 6, 5, 1, 0, 1, 0, 0,
            2, 0, -22, 2, 0, 4, 2, 0, 1, 5, 1, 1, 2, 4, 366, 2, 0, 0,
        ])

    def test_rows_of_any_length_are_stepped_over(self):
        calls = [0, 2, 1, 0, 1, 0]
        for count in range(13):
            row = [LARGEST] * count if count > 8 else [5] * count
            refusal = -2 if count == 1 else -22
            told = answers([*calls, 2, 0, 1, count, *row, 3, 0, 0])
            self.assertEqual(told, [2, 0, 0, 2, 0, 0, 2, 0, refusal, 2, 0, 1], count)

    def test_refusals_have_the_form_of_a_number(self):
        self.assertEqual(
            answers([0, 2, 1, 64, 1, 0, 3, 0, 0, 1, 0, 1, 0, 3, 0, 1, 4, 0, 0, 2, 0, 2, 1, 0]),
            [2, 0, 0, 2, 0, -22, 2, 0, -2, 2, 0, 0, 2, 0, -13, 2, 0, -22, 2, 0, -13],
        )

    def test_every_number_as_large_as_may_be(self):
        big = LARGEST
        calls = [0, big, 0, 2, 1, big, big, big, 2, big, big, 0, 3, big, big, 4, big, big, 2, big, big, 12, *[big] * 12]
        self.assertEqual(
            answers(calls),
            [2, 0, -22, 2, 0, 0, 2, 0, -22, 2, 0, -22, 2, 0, -2, 2, 0, -2, 2, 0, -22],
        )
        self.assertEqual(
            answers([0, 2, 5, big, 6, big, 7, big, 8, big, 1, 0, 1, 0]),
            [2, 0, 0, 2, 0, -22, 2, 0, -22, 2, 0, -22, 2, 0, -2, 2, 0, 0],
        )

    def test_answers_are_a_list_of_whole_numbers(self):
        told = answers(line([
            start(2), give(0, 1), make(COUNTED, 1, 0), use(1, 0), use(1, 1), why(1), back(0, 1), why(1), why(2),
            give(1, 1, 0), of(1), of(64), days(1), days(367), why(2), give(1, 1), person(1), person(64), why(3),
        ]))
        self.assertIs(type(told), list)
        self.assertEqual({type(number) for number in told}, {int})


class TestWhatIsHandedIn(unittest.TestCase):
    CALLS = [
        start(3), give(0, 3), give(1, 3), make(COUNTED, 1, 1, 0), make(PLAIN, 1, 2), back(1, 1), use(0, 0),
        give(2, 7, 4), make(PLAIN, 5, 4), days(3), of(2), days(9), person(0), *[why(item) for item in range(7)],
    ]

    def test_it_is_the_same_afterwards(self):
        calls = line(self.CALLS)
        before = list(calls)
        answers(calls)
        self.assertEqual(calls, before)

    def test_it_is_not_changed_for_a_while_either(self):
        changes = ("append", "extend", "insert", "pop", "remove", "clear", "sort", "reverse")
        special = ("__setitem__", "__delitem__", "__iadd__", "__imul__")

        def refuse(*args, **named):
            raise AssertionError("the list that was handed in is changed")

        locked = type("LockedList", (list,), {name: refuse for name in changes + special})
        calls = line(self.CALLS)
        self.assertEqual(answers(locked(calls)), answers(calls))

    def test_the_same_list_twice_is_answered_alike(self):
        calls = line(self.CALLS)
        first = answers(calls)
        self.assertEqual(answers(calls), first)
        self.assertIsNot(answers(calls), first)

    def test_nothing_is_kept_between_two_lists(self):
        answers(line([start(64), *[give(0, 1)] * 128]))
        self.assertEqual(answers(line([start(2), give(0, 1), use(1, 0)])), [2, 0, 0, 2, 0, 0, 2, 0, -2])

    def test_no_day_and_no_taking_back_is_kept_between_two_lists(self):
        answers(line([start(2), give(0, 1), days(366), give(0, 1, 400), person(0)]))
        self.assertEqual(run(start(2), give(0, 1, 0), use(0, 0), why(0), of(0)), [0, 0, 1, (0, 1, 1, 0), 1])

    def test_changing_what_was_given_back_changes_no_later_answer(self):
        calls = line(self.CALLS)
        first = answers(calls)
        copy = list(first)
        first.clear()
        self.assertEqual(answers(calls), copy)


class TestLongLists(unittest.TestCase):
    def test_3000_calls(self):
        calls = [start(2), *[give(0, 3)] * 128, *[use(number % 130, 0) for number in range(2871)]]
        self.assertEqual(len(calls), 3000)
        expected = [0, *range(128), *[1 if number % 130 < 128 else -2 for number in range(2871)]]
        self.assertEqual(answers(line(calls)), line([[2, 0, value] for value in expected]))

    def test_3000_calls_upon_the_most_that_can_be_nested(self):
        gives = [give(person % 64, 3) for person in range(64)]
        makes = [make(PLAIN, 3, *range(number - 8, number)) for number in range(64, 128)]
        backs = [back(63, 1)] * (3000 - 129)
        expected = [0, *range(128), *[0] * len(backs)]
        self.assertEqual(
            answers(line([start(64), *gives, *makes, *backs])), line([[2, 0, value] for value in expected])
        )

    def test_3000_calls_with_128_items_and_366_days_each(self):
        gives = [give(number % 64, 3, 365 + number) for number in range(64)]
        makes = [make(PLAIN, 3, *range(number - 8, number)) for number in range(64, 128)]
        calls = [start(64), *gives, *makes, *[days(366)] * 2871]
        # Item 0 is over on day 366; the items that are made of 56 to 63 and all behind them, on day 422.
        expected = [0, *range(128), 1, 127, *[0] * 271, *[-22] * 2598]
        self.assertEqual(run(*calls), expected)

    def test_3000_calls_that_ask_after_the_most_that_can_be_nested(self):
        gives = [give(person_number, 3) for person_number in range(64)]
        eights = [make(PLAIN, 3, *range(8 * row, 8 * row + 8)) for row in range(8)]
        alls = [make(PLAIN, 3, *range(64, 72)) for _ in range(56)]
        calls = [start(64), *gives, *eights, *alls]
        asked = [of(number % 64) if number % 2 else why(127) for number in range(3000 - len(calls))]
        self.assertEqual(
            run(*calls, *asked),
            [0, *range(128), *[58 if number % 2 else (0, 3, 64, 0) for number in range(len(asked))]],
        )
        self.assertEqual(run(*calls, *[days(0)] * 2870, person(63))[-2:], [0, 58])

    def test_3000_starts(self):
        self.assertEqual(answers([0, 2, 0, 65] * 1500), [2, 0, 0, 2, 0, -22] * 1500)


if __name__ == "__main__":
    unittest.main()
