import unittest

from callmaker import ABSENT, COUNTED, DENIED, LARGEST, PLAIN, WRONG, back, give, last, make, run, start, tail, use


class TestErUse(unittest.TestCase):
    def test_each_purpose(self):
        for purpose in range(16):
            uses = [use(0, other) for other in range(16)]
            expected = [1 if other == purpose else DENIED for other in range(16)]
            self.assertEqual(tail(16, start(2), give(0, 1 << purpose), *uses), expected)

    def test_no_such_item(self):
        for item in (1, 2, 127, 128, 255, 2**32, LARGEST):
            self.assertEqual(last(start(2), give(0, 1), use(item, 0)), ABSENT, item)

    def test_no_item_at_all(self):
        self.assertEqual(last(start(2), use(0, 0)), ABSENT)

    def test_an_erased_item(self):
        self.assertEqual(tail(2, start(2), give(0, 1), back(0, 1), use(0, 0)), [1, ABSENT])

    def test_purpose_15_and_above(self):
        for purpose, answer in ((15, 1), (16, WRONG), (17, WRONG), (63, WRONG), (64, WRONG), (LARGEST, WRONG)):
            self.assertEqual(last(start(2), give(0, 65535), use(0, purpose)), answer, purpose)

    def test_absent_before_wrong(self):
        calls = [start(2), give(0, 1), back(0, 1)]
        self.assertEqual(tail(3, *calls, use(0, 16), use(1, 16), use(LARGEST, LARGEST)), [ABSENT] * 3)

    def test_wrong_where_it_has_not_the_purpose_either(self):
        self.assertEqual(last(start(2), give(0, 1), use(0, 16)), WRONG)

    def test_using_changes_nothing(self):
        self.assertEqual(tail(4, start(2), give(0, 1), use(0, 0), use(0, 0), use(0, 1), use(0, 0)), [1, 1, DENIED, 1])

    def test_made_with_fewer_purposes_than_its_parts(self):
        for kind in (PLAIN, COUNTED):
            calls = [start(2), give(0, 7), give(0, 7), make(kind, 2, 0, 1)]
            self.assertEqual(tail(4, *calls, use(2, 0), use(2, 1), use(2, 2), use(0, 0)), [DENIED, 1, DENIED, 1])

    def test_a_purpose_taken_back_at_a_part(self):
        calls = [start(2), give(0, 3), give(1, 3), make(PLAIN, 3, 0, 1), back(1, 1)]
        self.assertEqual(tail(5, *calls, use(2, 0), use(2, 1), use(0, 0), use(1, 0)), [0, DENIED, 1, 1, DENIED])

    def test_a_purpose_taken_back_at_a_part_of_a_part(self):
        calls = [start(2), give(0, 3), make(PLAIN, 3, 0), make(COUNTED, 3, 1), make(PLAIN, 3, 2), back(0, 2)]
        uses = [use(item, purpose) for item in range(4) for purpose in range(2)]
        self.assertEqual(run(*calls, *uses), [0, 0, 1, 2, 3, 0, *[1, DENIED] * 4])

    def test_purposes_taken_back_at_different_parts(self):
        calls = [start(2), give(0, 7), give(1, 7), make(PLAIN, 7, 0, 1), back(0, 1), back(1, 4)]
        self.assertEqual(tail(3, *calls, use(2, 0), use(2, 1), use(2, 2)), [DENIED, 1, DENIED])


if __name__ == "__main__":
    unittest.main()
