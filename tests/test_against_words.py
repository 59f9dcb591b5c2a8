"""The program beside a slow one that works each answer out anew, straight from the document's words."""

import random
import unittest

from callmaker import back, days, give, make, of, person, run, start, use, why


class Words:
    def start(self, many):
        if not 2 <= many <= 64:
            return -22
        self.many, self.today, self.count = many, 0, 0
        self.agreements, self.made, self.found = {}, {}, {}
        # By the given item: the purposes taken back; those taken back whole. By the item: why it is erased.
        self.taken, self.whole, self.erased = {}, set(), {}
        return 0

    def give(self, person, purposes, until):
        if person > 63 or not 1 <= purposes <= 65535 or until > 100000 or until < self.today:
            return -22
        if self.count == 128:
            return -28
        self.agreements[self.count] = (person, purposes, until)
        self.taken[self.count] = 0
        self.count += 1
        return self.count - 1

    def make(self, kind, purposes, *of):
        if kind > 1 or not 1 <= purposes <= 65535 or not 1 <= len(of) <= 8 or len(set(of)) < len(of):
            return -22
        if not all(self.there(item) for item in of):
            return -2
        if any(purposes & ~self.purposes(item) for item in of):
            return -13
        if self.count == 128:
            return -28
        self.made[self.count] = (kind, purposes, of)
        self.count += 1
        return self.count - 1

    def use(self, item, purpose):
        if not self.there(item):
            return -2
        if purpose > 15:
            return -22
        return 1 if self.purposes(item) >> purpose & 1 else -13

    def back(self, item, purposes):
        if not self.there(item):
            return -2
        if item not in self.agreements or not 1 <= purposes <= 65535:
            return -22
        self.taken[item] |= purposes
        return self.sweep(item)

    def person(self, person):
        if person > 63:
            return -22
        self.whole |= {given for given in self.agreements if self.agreements[given][0] == person}
        return self.sweep()

    def days(self, n):
        if n > 366 or self.today + n > 100000:
            return -22
        gone = 0
        for _ in range(n):
            self.today += 1
            gone += self.sweep()
        return gone

    def of(self, person):
        if person > 63:
            return -22
        return sum(any(self.agreements[given][0] == person for given in self.inside(item)) for item in self.all_there())

    def why(self, item):
        if item >= self.count:
            return -2
        if item in self.erased:
            return (1, *self.erased[item])
        return (0, self.purposes(item), len(self.inside(item)), 0)

    def sweep(self, taken_back_of=None):
        """Erases whatever is to be erased as things are now; how many items these are."""
        gone = {}
        for item in self.all_there():
            whole = [given for given in self.inside(item) if given in self.whole]
            over = [given for given in self.inside(item) if self.agreements[given][2] < self.today]
            if not self.purposes(item):
                gone[item] = (1, taken_back_of, self.today)
            elif whole:
                gone[item] = (2, min(whole), self.today)
            elif over:
                gone[item] = (3, min(over), self.today)
        self.erased.update(gone)
        return len(gone)

    def there(self, item):
        return item < self.count and item not in self.erased

    def all_there(self):
        return [item for item in range(self.count) if self.there(item)]

    def inside(self, item):
        if item not in self.found:
            self.found[item] = self.look_inside(item)
        return self.found[item]

    def look_inside(self, item):
        if item in self.agreements:
            return {item}
        kind, _, of = self.made[item]
        found = set().union(*(self.inside(part) for part in of))
        people = {self.agreements[given][0] for given in found}
        return set() if kind == 1 and len(people) >= self.many else found

    def purposes(self, item):
        if item in self.agreements:
            return self.agreements[item][1] & ~self.taken[item]
        left = self.made[item][1]
        for given in self.inside(item):
            left &= self.purposes(given)
        return left

    def made_for(self, item):
        return self.agreements[item][1] if item in self.agreements else self.made[item][1]


def some_purposes(dice):
    return dice.choice((dice.randrange(1, 8), dice.randrange(1, 8), 7, 65535, 0, 65536))


def some_day(dice, today):
    return max(0, today + dice.choice((-1, 0, 1, 2, 2, 5, 9, 30, 366, 400)))


def some_call(dice, words):
    """A call upon the items that there are, seldom one that is refused for its numbers alone."""
    count = words.count
    item = dice.randrange(count + 2)
    somebody = dice.choice((0, 1, 2, 3, 4, 63, 64))
    choice = dice.randrange(40)
    if choice < 9:
        purposes = dice.choice((7, 7, 7, 7, 65535, some_purposes(dice)))
        return "give", (somebody, purposes, some_day(dice, words.today))
    if choice < 22:
        near = range(max(0, count - 8), count + 1)
        parts = dice.sample(near, min(len(near), dice.choice((1, 2, 2, 3))))
        if words.all_there() and dice.randrange(3):
            parts = dice.sample(words.all_there(), min(len(words.all_there()), dice.choice((1, 2, 2, 3))))
        return "make", (dice.choice((0, 0, 1)), dice.choice((1, 1, 1, 2, 2, 3, 7)), *parts)
    if choice < 27:
        return "use", (item, dice.choice((0, 1, 2, 15, 16)))
    if choice < 30:
        return "back", (item, dice.choice((1, 2, 4, 65535, some_purposes(dice))))
    if choice < 31:
        return "person", (somebody,)
    if choice < 33:
        return "days", (dice.choice((0, 1, 1, 1, 2, 3, 7, 31, dice.choice((366, 367)))),)
    if choice < 36:
        return "of", (somebody,)
    return ("why", (item,)) if dice.randrange(40) else ("start", (dice.choice((1, 2, 3, 65)),))


WRITTEN = {
    "start": start, "give": give, "make": make, "use": use, "back": back,
    "person": person, "days": days, "of": of, "why": why,
}


def some_list(dice, length):
    """Names and numbers of calls, what the words answer, and the words as they stand behind these."""
    words = Words()
    told = [("start", (dice.choice((2, 2, 3, 4)),))]
    expected = [words.start(*told[0][1])]
    while len(told) < length:
        name, numbers = some_call(dice, words)
        told.append((name, numbers))
        expected.append(getattr(words, name)(*numbers))
    return told, expected, words


def written(told):
    return [WRITTEN[name](*numbers) for name, numbers in told]


def outcome(name, answer):
    if name == "why" and answer != -2:
        return name, answer[:2] if answer[0] == 1 else "there"
    return name, min(answer, 2)


WANTED = [
    *[("start", answer) for answer in (-22, 0)],
    *[("give", answer) for answer in (-22, 0, 2)],
    *[("make", answer) for answer in (-2, -13, 2)],
    *[("use", answer) for answer in (-22, -2, -13, 1)],
    *[("back", answer) for answer in (-22, -2, 0, 1, 2)],
    *[(name, answer) for name in ("person", "days", "of") for answer in (-22, 0, 1, 2)],
    *[("why", answer) for answer in (-2, "there", (1, 1), (1, 2), (1, 3))],
]


class TestAgainstWords(unittest.TestCase):
    def test_lists_of_calls_made_by_dice(self):
        seen = {}
        for seed in range(1500):
            told, expected, _ = some_list(random.Random(seed), 60)
            self.assertEqual(run(*written(told)), expected, f"seed {seed}")
            for (name, _), answer in zip(told, expected):
                seen[outcome(name, answer)] = seen.get(outcome(name, answer), 0) + 1
        for wanted in WANTED:
            self.assertGreater(seen.get(wanted, 0), 50, f"the dice hardly ever bring {wanted}")

    def test_lists_that_are_full_at_last(self):
        seen = set()
        for seed in range(8):
            told, expected, _ = some_list(random.Random(seed), 400)
            self.assertEqual(run(*written(told)), expected, f"seed {seed}")
            seen |= {outcome(name, answer) for (name, _), answer in zip(told, expected)}
        self.assertTrue({("give", -28), ("make", -28)} <= seen)


class TestWhatHolds(unittest.TestCase):
    """Each of a to d, asked of the program's answers and of what was given, made and taken back."""

    def setUp(self):
        self.told = []
        for seed in range(400):
            dice = random.Random(seed)
            told, _, words = some_list(dice, dice.randrange(5, 60))
            self.told.append((written(told), words))

    def ask(self, asked):
        """The words behind each list of calls, with what the program then answers to calls upon each item."""
        for calls, words in self.told:
            items = range(words.count)
            found = run(*calls, *[call for item in items for call in asked(item)])[len(calls):]
            step = len(asked(0))
            yield words, [found[step * item:step * item + step] for item in items]

    def test_a_never_against_anybodys_will(self):
        used = 0
        for words, found in self.ask(lambda item: [use(item, purpose) for purpose in range(16)]):
            for item, answers in enumerate(found):
                for purpose in [purpose for purpose in range(16) if answers[purpose] == 1]:
                    used += 1
                    for given in words.inside(item):
                        _, agreed, until = words.agreements[given]
                        self.assertTrue(agreed >> purpose & 1)
                        self.assertFalse(words.taken[given] >> purpose & 1)
                        self.assertNotIn(given, words.whole)
                        self.assertLessEqual(words.today, until)
        self.assertGreater(used, 1000)

    def test_b_nothing_that_need_not_be_erased(self):
        erased = 0
        for words, found in self.ask(lambda item: [why(item)]):
            for item in [item for item, answers in enumerate(found) if answers[0][0] == 1]:
                erased += 1
                inside = words.inside(item)
                taken = 0
                for given in inside:
                    taken |= words.taken[given]
                over = any(words.agreements[given][2] < words.today for given in inside)
                self.assertTrue(words.made_for(item) & ~taken == 0 or over or inside & words.whole)
        self.assertGreater(erased, 1000)

    def test_c_who_takes_back_all_is_in_nothing_that_is_there(self):
        there = 0
        for words, found in self.ask(lambda item: [why(item)]):
            for item in [item for item, answers in enumerate(found) if answers[0][0] == 0]:
                there += 1
                self.assertEqual(words.inside(item) & words.whole, set())
        self.assertGreater(there, 1000)
        for calls, _ in self.told:
            for somebody in (0, 1, 2, 3, 4, 63):
                self.assertEqual(run(*calls, person(somebody), of(somebody), person(somebody))[-2:], [0, 0])

    def test_d_what_is_counted_of_many_stays(self):
        counted = 0
        for words, found in self.ask(lambda item: [why(item)]):
            for item in [item for item in words.made if not words.inside(item)]:
                counted += 1
                self.assertEqual(found[item], [(0, words.made_for(item), 0, 0)])
        self.assertGreater(counted, 100)


if __name__ == "__main__":
    unittest.main()
