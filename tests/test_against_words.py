"""The program beside a slow one that works each answer out anew, straight from the document's words."""

import random
import unittest

from callmaker import back, give, make, run, start, use


class Words:
    def start(self, many):
        if not 2 <= many <= 64:
            return -22
        self.many, self.agreements, self.made, self.taken, self.erased, self.count = many, {}, {}, {}, set(), 0
        return 0

    def give(self, person, purposes, until):
        if person > 63 or not 1 <= purposes <= 65535 or until > 100000:
            return -22
        if self.count == 128:
            return -28
        self.agreements[self.count] = (person, purposes)
        self.taken[self.count] = 0
        self.count += 1
        return self.count - 1

    def make(self, kind, purposes, *of):
        if kind > 1 or not 1 <= purposes <= 65535 or not 1 <= len(of) <= 8 or len(set(of)) < len(of):
            return -22
        if not all(self.there(item) for item in of):
            return -2
        if any(purposes & ~self.purposes(item) for item in of):
            return -13
        if self.count == 128:
            return -28
        self.made[self.count] = (kind, purposes, of)
        self.count += 1
        return self.count - 1

    def use(self, item, purpose):
        if not self.there(item):
            return -2
        if purpose > 15:
            return -22
        return 1 if self.purposes(item) >> purpose & 1 else -13

    def back(self, item, purposes):
        if not self.there(item):
            return -2
        if item not in self.agreements or not 1 <= purposes <= 65535:
            return -22
        self.taken[item] |= purposes
        gone = {other for other in range(self.count) if self.there(other) and not self.purposes(other)}
        self.erased |= gone
        return len(gone)

    def there(self, item):
        return item < self.count and item not in self.erased

    def inside(self, item):
        if item in self.agreements:
            return {item}
        kind, _, of = self.made[item]
        found = set().union(*(self.inside(part) for part in of))
        people = {self.agreements[given][0] for given in found}
        return set() if kind == 1 and len(people) >= self.many else found

    def purposes(self, item):
        if item in self.agreements:
            return self.agreements[item][1] & ~self.taken[item]
        left = self.made[item][1]
        for given in self.inside(item):
            left &= self.purposes(given)
        return left


def some_purposes(dice):
    return dice.choice((dice.randrange(1, 8), dice.randrange(1, 8), 7, 65535, 0, 65536))


def some_call(dice, count):
    """A call upon about so many items, seldom one that is refused for its numbers alone."""
    item = dice.randrange(count + 2)
    choice = dice.randrange(13)
    if choice < 3:
        return "give", (dice.choice((0, 1, 2, 3, 63, 64)), dice.choice((7, 7, 7, 7, 65535, some_purposes(dice))), 9)
    if choice < 8:
        near = range(max(0, count - 8), count + 1)
        of = dice.sample(near, min(len(near), dice.choice((1, 2, 2, 3))))
        return "make", (dice.choice((0, 0, 1)), dice.choice((1, 1, 1, 2, 2, 3, 7)), *of)
    if choice < 12:
        return "use", (item, dice.choice((0, 1, 2, 15, 16)))
    return "back", (item, dice.choice((1, 2, 4, 65535, some_purposes(dice))))


WRITTEN = {"start": start, "give": give, "make": make, "use": use, "back": back}


class TestAgainstWords(unittest.TestCase):
    def test_lists_of_calls_made_by_dice(self):
        seen = {}
        for seed in range(1000):
            dice = random.Random(seed)
            words = Words()
            told = [("start", (dice.choice((2, 2, 3, 4)),))]
            expected = [words.start(*told[0][1])]
            for _ in range(60):
                name, numbers = some_call(dice, words.count)
                told.append((name, numbers))
                expected.append(getattr(words, name)(*numbers))
                outcome = (name, min(expected[-1], 1) if name != "back" else min(expected[-1], 4))
                seen[outcome] = seen.get(outcome, 0) + 1
            calls = [WRITTEN[name](*numbers) for name, numbers in told]
            self.assertEqual(run(*calls), expected, f"seed {seed}")
        for outcome in (("back", 4), ("back", 0), ("make", 1), ("make", -2), ("make", -13), ("use", 1), ("use", -13)):
            self.assertGreater(seen.get(outcome, 0), 20, f"the dice hardly ever bring {outcome}")


if __name__ == "__main__":
    unittest.main()
