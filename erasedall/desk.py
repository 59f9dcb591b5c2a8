"""Data that people give for purposes until a day, what is made of them, and what is erased when, and why."""

# The refusals. They are answered below 0: -WRONG, and so on.
ABSENT = 2
DENIED = 13
WRONG = 22
FULL = 28

ER_START = 0
ER_GIVE = 1
ER_MAKE = 2
ER_USE = 3
ER_BACK = 4
ER_PERSON = 5
ER_DAYS = 6
# er_of is 7: it's the one that is left once the others are asked for.
ER_WHY = 8

# How many whole numbers each call has, by the call's own number; a row comes behind these.
NUMBERS_OF_CALL = (1, 3, 2, 2, 2, 1, 1, 1, 1)

LEAST_MANY = 2
MOST_MANY = 64
LAST_PERSON = 63
LAST_PURPOSE = 15
ALL_PURPOSES = 65535
LAST_DAY = 100000
MOST_DAYS = 366
MOST_ITEMS = 128
MOST_PARTS = 8

PLAIN = 0
COUNTED = 1

NUMBER_FORM = 0
WHY_FORM = 1

# Why an item is erased.
NOT_ERASED = 0
NO_PURPOSES = 1
ALL_TAKEN_BACK = 2
WAS_OVER = 3


def are_purposes(purposes):
    return 1 <= purposes and purposes <= ALL_PURPOSES


def are_parts(of):
    return 1 <= len(of) and len(of) <= MOST_PARTS and len(set(of)) == len(of)


# A made item has neither a person nor a last day of its own: both are None.
class Item:
    def __init__(self, person, purposes, until, inside):
        self.person = person
        self.purposes = purposes
        self.until = until
        # The numbers of the given items that are in it. They never change: whatever erases
        # one of them erases every item that it's in, so none is ever left out later.
        self.inside = inside
        # Why it is erased, the number of the given item by which, and the day; told only once it's erased.
        self.why = NOT_ERASED
        self.by = 0
        self.day = 0

    def is_given(self):
        return self.person is not None

    def is_erased(self):
        return self.why != NOT_ERASED

    def has_all(self, purposes):
        return self.purposes & purposes == purposes

    def lose(self, purposes):
        self.purposes = self.purposes & ~purposes

    def erase(self, why, by, day):
        self.why = why
        self.by = by
        self.day = day


class Desk:
    def __init__(self):
        self.many = LEAST_MANY
        self.today = 0
        # Erased items stay here, so that numbers and the count of items go on as they came.
        self.kept = []

    def er_start(self, many):
        if many < LEAST_MANY or many > MOST_MANY:
            return -WRONG
        self.many = many
        self.today = 0
        self.kept = []
        return 0

    def er_give(self, person, purposes, until):
        if person > LAST_PERSON or not are_purposes(purposes):
            return -WRONG
        if until > LAST_DAY or until < self.today:
            return -WRONG
        if self.is_full():
            return -FULL
        return self.keep(Item(person, purposes, until, [len(self.kept)]))

    def er_make(self, kind, purposes, of):
        if kind != PLAIN and kind != COUNTED:
            return -WRONG
        if not are_purposes(purposes) or not are_parts(of):
            return -WRONG
        # Every part is asked for -2 before any is asked for -13: both are due at one moment.
        if not all([self.is_there(number) for number in of]):
            return -ABSENT
        if not all([self.kept[number].has_all(purposes) for number in of]):
            return -DENIED
        if self.is_full():
            return -FULL
        return self.keep(Item(None, purposes, None, self.inside_made(kind, of)))

    def er_use(self, number, purpose):
        if not self.is_there(number):
            return -ABSENT
        if purpose > LAST_PURPOSE:
            return -WRONG
        if not self.kept[number].has_all(1 << purpose):
            return -DENIED
        return 1

    def er_back(self, number, purposes):
        if not self.is_there(number):
            return -ABSENT
        if not self.kept[number].is_given() or not are_purposes(purposes):
            return -WRONG
        before = len(self.all_there())
        for item in self.all_with(number):
            item.lose(purposes)
            if item.purposes == 0:
                item.erase(NO_PURPOSES, number, self.today)
        return before - len(self.all_there())

    def er_person(self, person):
        if person > LAST_PERSON:
            return -WRONG
        before = len(self.all_there())
        # From the least number on, so that of several in one item the least is the one by which.
        for number in self.given_there():
            if self.kept[number].person == person:
                self.erase_all_with(number, ALL_TAKEN_BACK, self.today)
        return before - len(self.all_there())

    def er_days(self, n):
        if n > MOST_DAYS or self.today + n > LAST_DAY:
            return -WRONG
        before = len(self.all_there())
        self.today = self.today + n
        for number in self.over_by_now():
            self.erase_all_with(number, WAS_OVER, self.kept[number].until + 1)
        return before - len(self.all_there())

    def er_of(self, person):
        if person > LAST_PERSON:
            return -WRONG
        return len([item for item in self.all_there() if person in self.people_of(item.inside)])

    # The one call whose answer isn't always one number: it tells its form itself.
    def er_why(self, number):
        if number >= len(self.kept):
            return [NUMBER_FORM, -ABSENT]
        item = self.kept[number]
        if item.is_erased():
            return [WHY_FORM, 1, item.why, item.by, item.day]
        return [WHY_FORM, 0, item.purposes, len(item.inside), 0]

    def is_full(self):
        return len(self.kept) >= MOST_ITEMS

    def is_there(self, number):
        return number < len(self.kept) and not self.kept[number].is_erased()

    def all_there(self):
        return [item for item in self.kept if not item.is_erased()]

    def all_with(self, given):
        return [item for item in self.all_there() if given in item.inside]

    def given_there(self):
        return [number for number in range(len(self.kept)) if self.is_there(number) and self.kept[number].is_given()]

    # In the order in which they were over, day by day, those of one day by their numbers: even where
    # several days go at once an item is erased by the first of those that are in it.
    def over_by_now(self):
        over = [number for number in self.given_there() if self.kept[number].until < self.today]
        return sorted(over, key=lambda number: (self.kept[number].until, number))

    def erase_all_with(self, given, why, day):
        for item in self.all_with(given):
            item.erase(why, given, day)

    def keep(self, item):
        self.kept.append(item)
        return len(self.kept) - 1

    def inside_made(self, kind, of):
        found = {}
        for number in of:
            for given in self.kept[number].inside:
                found[given] = True
        inside = list(found)
        if kind == COUNTED and len(set(self.people_of(inside))) >= self.many:
            return []
        return inside

    # A person stands as often as given items are of this person.
    def people_of(self, given):
        return [self.kept[number].person for number in given]


def end_of_call(calls, begin):
    end = begin + 1 + NUMBERS_OF_CALL[calls[begin]]
    if calls[begin] == ER_MAKE:
        return end + 1 + calls[end]
    return end


def number_told(desk, call):
    if call[0] == ER_START:
        return desk.er_start(call[1])
    if call[0] == ER_GIVE:
        return desk.er_give(call[1], call[2], call[3])
    if call[0] == ER_MAKE:
        # call[3] is how many numbers the row has.
        return desk.er_make(call[1], call[2], call[4:])
    if call[0] == ER_USE:
        return desk.er_use(call[1], call[2])
    if call[0] == ER_BACK:
        return desk.er_back(call[1], call[2])
    if call[0] == ER_PERSON:
        return desk.er_person(call[1])
    if call[0] == ER_DAYS:
        return desk.er_days(call[1])
    return desk.er_of(call[1])


def answer_to(desk, call):
    if call[0] == ER_WHY:
        return desk.er_why(call[1])
    return [NUMBER_FORM, number_told(desk, call)]


def answers(calls):
    desk = Desk()
    told = []
    begin = 0
    while begin < len(calls):
        end = end_of_call(calls, begin)
        answer = answer_to(desk, calls[begin:end])
        told.append(len(answer))
        told.extend(answer)
        begin = end
    return told
