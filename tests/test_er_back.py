import unittest

from callmaker import ABSENT, COUNTED, DENIED, LARGEST, PLAIN, WRONG, back, give, last, make, start, tail, use


class TestRefusals(unittest.TestCase):
    def test_no_such_item(self):
        for item in (1, 127, 128, 255, LARGEST):
            self.assertEqual(last(start(2), give(0, 1), back(item, 1)), ABSENT, item)

    def test_an_erased_item(self):
        self.assertEqual(tail(2, start(2), give(0, 1), back(0, 1), back(0, 1)), [1, ABSENT])

    def test_a_made_item_is_not_a_given_one(self):
        for kind in (PLAIN, COUNTED):
            calls = [start(2), give(0, 3), make(kind, 3, 0), back(1, 1), use(0, 0), use(1, 0)]
            self.assertEqual(tail(3, *calls), [WRONG, 1, 1])

    def test_purposes_are_not_as_told(self):
        for purposes in (0, 65536, 65537, 131071, LARGEST):
            self.assertEqual(tail(2, start(2), give(0, 1), back(0, purposes), use(0, 0)), [WRONG, 1], purposes)

    def test_purposes_at_their_edges_are_taken(self):
        self.assertEqual(tail(2, start(2), give(0, 65535), back(0, 1), back(0, 65535)), [0, 1])

    def test_absent_before_wrong(self):
        calls = [start(2), give(0, 1), make(PLAIN, 1, 0), back(0, 1)]
        for refused in (back(0, 0), back(1, 1), back(1, 65536), back(2, 0), back(LARGEST, LARGEST)):
            self.assertEqual(last(*calls, refused), ABSENT)


class TestTakenBack(unittest.TestCase):
    def test_some_of_the_purposes(self):
        calls = [start(2), give(0, 7), back(0, 5), use(0, 0), use(0, 1), use(0, 2)]
        self.assertEqual(tail(4, *calls), [0, DENIED, 1, DENIED])

    def test_purposes_that_the_item_does_not_have(self):
        calls = [start(2), give(0, 2), back(0, 65533), use(0, 0), use(0, 1), back(0, 65535)]
        self.assertEqual(tail(4, *calls), [0, DENIED, 1, 1])

    def test_a_purpose_that_was_taken_back_before(self):
        self.assertEqual(tail(4, start(2), give(0, 3), back(0, 1), back(0, 1), use(0, 0), use(0, 1)), [0, 0, DENIED, 1])

    def test_the_last_purpose(self):
        self.assertEqual(tail(3, start(2), give(0, 3), back(0, 1), back(0, 2), use(0, 1)), [0, 1, ABSENT])

    def test_all_purposes_at_once(self):
        self.assertEqual(tail(2, start(2), give(0, 65535), back(0, 65535), use(0, 0)), [1, ABSENT])

    def test_other_items_of_the_same_person_are_left(self):
        calls = [start(2), give(0, 1), give(0, 1), make(PLAIN, 1, 1), back(0, 1), use(1, 0), use(2, 0)]
        self.assertEqual(tail(3, *calls), [1, 1, 1])

    def test_all_that_was_made_of_it_is_erased_with_it(self):
        calls = [
            start(64), give(0, 1), give(1, 1),
            make(PLAIN, 1, 0), make(PLAIN, 1, 2), make(COUNTED, 1, 3, 1), make(PLAIN, 1, 4), make(PLAIN, 1, 1),
        ]
        uses = [use(item, 0) for item in range(7)]
        self.assertEqual(tail(8, *calls, back(0, 1), *uses), [5, -2, 1, -2, -2, -2, -2, 1])
        self.assertEqual(tail(8, *calls, back(1, 1), *uses), [4, 1, -2, 1, 1, -2, -2, -2])

    def test_what_was_erased_before_is_not_counted_again(self):
        calls = [start(3), give(0, 1), give(1, 1), make(PLAIN, 1, 0, 1), back(0, 1), back(1, 1)]
        self.assertEqual(tail(2, *calls), [2, 1])

    def test_made_ones_with_fewer_purposes_are_erased_first(self):
        calls = [start(2), give(0, 7), make(PLAIN, 1, 0), make(PLAIN, 3, 0), make(PLAIN, 1, 2)]
        self.assertEqual(
            tail(7, *calls, back(0, 1), use(0, 1), use(1, 0), use(2, 1), use(3, 0), back(0, 2), back(0, 4)),
            [2, 1, ABSENT, 1, ABSENT, 1, 1],
        )

    def test_erased_though_each_part_has_purposes_left(self):
        calls = [start(2), give(0, 3), give(1, 3), make(PLAIN, 3, 0, 1), back(0, 1), back(1, 2)]
        self.assertEqual(tail(5, *calls, use(0, 1), use(1, 0), use(2, 0)), [0, 1, 1, 1, ABSENT])

    def test_what_is_erased_stays_so(self):
        calls = [start(2), give(0, 1), make(PLAIN, 1, 0), back(0, 1), give(0, 1), use(0, 0), use(1, 0), use(2, 0)]
        self.assertEqual(tail(4, *calls), [2, ABSENT, ABSENT, 1])

    def test_an_item_that_is_in_by_two_ways_is_counted_once(self):
        calls = [start(9), give(0, 1), make(PLAIN, 1, 0), make(PLAIN, 1, 0), make(PLAIN, 1, 1, 2, 0)]
        self.assertEqual(last(*calls, back(0, 1)), 4)

    def test_a_long_row_of_items_each_made_of_the_one_before(self):
        calls = [start(2), give(0, 1)] + [make(PLAIN, 1, number) for number in range(127)]
        self.assertEqual(tail(2, *calls, back(0, 1), use(127, 0)), [128, ABSENT])


class TestCounted(unittest.TestCase):
    def test_of_as_many_people_as_many_it_stays(self):
        for many in (2, 3, 8):
            gives = [give(person, 1) for person in range(many)]
            backs = [back(item, 1) for item in range(many)]
            calls = [start(many), *gives, make(COUNTED, 1, *range(many)), *backs, use(many, 0)]
            self.assertEqual(tail(many + 1, *calls), [1] * (many + 1))

    def test_of_one_fewer_it_goes(self):
        for many in (2, 3, 8):
            fewer = many - 1
            gives = [give(person, 1) for person in range(fewer)]
            calls = [start(many), *gives, make(COUNTED, 1, *range(fewer)), back(fewer - 1, 1), use(fewer, 0)]
            self.assertEqual(tail(2, *calls), [2, ABSENT])

    def test_of_more_than_many_it_stays(self):
        calls = [start(2), *[give(person, 1) for person in range(8)], make(COUNTED, 1, *range(8)), back(3, 1)]
        self.assertEqual(tail(2, *calls, use(8, 0)), [1, 1])

    def test_of_many_items_one_person_twice(self):
        calls = [start(3), give(0, 1), give(1, 1), give(0, 1), make(COUNTED, 1, 0, 1, 2), back(2, 1), use(3, 0)]
        self.assertEqual(tail(2, *calls), [2, ABSENT])

    def test_of_many_people_one_of_them_twice(self):
        calls = [start(2), give(0, 1), give(0, 1), give(1, 1), make(COUNTED, 1, 0, 1, 2), back(0, 1), use(3, 0)]
        self.assertEqual(tail(2, *calls), [1, 1])

    def test_of_64_people(self):
        gives = [give(person, 1) for person in range(64)]
        eights = [make(PLAIN, 1, *range(8 * row, 8 * row + 8)) for row in range(8)]
        calls = [start(64), *gives, *eights, make(COUNTED, 1, *range(64, 72)), make(COUNTED, 1, *range(64, 71))]
        self.assertEqual(tail(3, *calls, back(0, 1), use(72, 0), use(73, 0)), [3, 1, ABSENT])

    def test_plain_of_many_people_goes(self):
        calls = [start(2), give(0, 1), give(1, 1), make(PLAIN, 1, 0, 1), back(0, 1), use(2, 0)]
        self.assertEqual(tail(2, *calls), [2, ABSENT])

    def test_counted_of_a_plain_one_of_many(self):
        calls = [start(2), give(0, 1), give(1, 1), make(PLAIN, 1, 0, 1), make(COUNTED, 1, 2), back(0, 1), use(3, 0)]
        self.assertEqual(tail(2, *calls), [2, 1])

    def test_made_of_a_counted_one_of_many_it_stays(self):
        for kind in (PLAIN, COUNTED):
            calls = [start(2), give(0, 1), give(1, 1), make(COUNTED, 1, 0, 1), make(kind, 1, 2)]
            self.assertEqual(tail(4, *calls, back(0, 1), back(1, 1), use(2, 0), use(3, 0)), [1, 1, 1, 1])

    def test_plain_of_a_counted_one_of_too_few_goes(self):
        calls = [start(3), give(0, 1), give(1, 1), make(COUNTED, 1, 0, 1), make(PLAIN, 1, 2), back(1, 1)]
        self.assertEqual(tail(3, *calls, use(2, 0), use(3, 0)), [3, ABSENT, ABSENT])

    def test_counted_of_counted_ones_of_too_few_that_are_many_together(self):
        calls = [
            start(3), give(0, 1), give(1, 1), give(2, 1),
            make(COUNTED, 1, 0, 1), make(COUNTED, 1, 3, 2), back(0, 1), use(3, 0), use(4, 0),
        ]
        self.assertEqual(tail(3, *calls), [2, ABSENT, 1])

    def test_people_behind_a_counted_one_of_many_are_not_counted_again(self):
        calls = [
            start(2), give(0, 1), give(1, 1), give(2, 1),
            make(COUNTED, 1, 0, 1), make(COUNTED, 1, 3, 2), back(0, 1), use(4, 0), back(2, 1), use(4, 0), use(3, 0),
        ]
        self.assertEqual(tail(5, *calls), [1, 1, 2, ABSENT, 1])

    def test_a_part_beside_a_counted_one_of_many_still_tells(self):
        calls = [start(2), give(0, 1), give(1, 1), make(COUNTED, 1, 0, 1), make(PLAIN, 1, 2, 0)]
        self.assertEqual(tail(3, *calls, back(1, 1), use(3, 0), back(0, 1)), [1, 1, 2])

    def test_counted_of_many_keeps_what_it_was_made_for_and_no_more(self):
        calls = [start(2), give(0, 7), give(1, 7), make(COUNTED, 3, 0, 1), back(0, 1), back(1, 7)]
        self.assertEqual(tail(3, *calls, use(2, 0), use(2, 1), use(2, 2)), [1, 1, DENIED])

    def test_a_made_item_may_have_purposes_that_were_taken_back_behind_a_counted_one(self):
        calls = [start(2), give(0, 3), give(1, 3), make(COUNTED, 3, 0, 1), back(0, 1), make(PLAIN, 1, 2)]
        self.assertEqual(tail(2, *calls, make(PLAIN, 1, 2, 0)), [3, DENIED])


if __name__ == "__main__":
    unittest.main()
