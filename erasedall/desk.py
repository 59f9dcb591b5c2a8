"""Data that people give for purposes, what is made of them, and what is erased once a purpose is taken back."""

# The refusals. They are answered below 0: -WRONG, and so on.
ABSENT = 2
DENIED = 13
WRONG = 22
FULL = 28

ER_START = 0
ER_GIVE = 1
ER_MAKE = 2
ER_USE = 3

# How many whole numbers each call has, by the call's own number; a row comes behind these.
NUMBERS_OF_CALL = (1, 3, 2, 2, 2)

LEAST_MANY = 2
MOST_MANY = 64
LAST_PERSON = 63
LAST_PURPOSE = 15
ALL_PURPOSES = 65535
LAST_DAY = 100000
MOST_ITEMS = 128
MOST_PARTS = 8

PLAIN = 0
COUNTED = 1

NUMBER_FORM = 0


def are_purposes(purposes):
    return 1 <= purposes and purposes <= ALL_PURPOSES


def are_parts(of):
    return 1 <= len(of) and len(of) <= MOST_PARTS and len(set(of)) == len(of)


# A made item has neither a person nor a last day of its own: both are None.
class Item:
    def __init__(self, person, purposes, until, inside):
        self.person = person
        self.purposes = purposes
        self.until = until
        # The numbers of the given items that are in it. They never change: whatever erases
        # one of them erases every item that it's in, so none is ever left out later.
        self.inside = inside
        self.erased = False

    def is_given(self):
        return self.person is not None

    def has_all(self, purposes):
        return self.purposes & purposes == purposes

    def lose(self, purposes):
        self.purposes = self.purposes & ~purposes
        if self.purposes == 0:
            self.erased = True


class Desk:
    def __init__(self):
        self.many = LEAST_MANY
        self.today = 0
        # Erased items stay here, so that numbers and the count of items go on as they came.
        self.kept = []

    def er_start(self, many):
        if many < LEAST_MANY or many > MOST_MANY:
            return -WRONG
        self.many = many
        self.today = 0
        self.kept = []
        return 0

    def er_give(self, person, purposes, until):
        if person > LAST_PERSON or not are_purposes(purposes):
            return -WRONG
        if until > LAST_DAY or until < self.today:
            return -WRONG
        if self.is_full():
            return -FULL
        return self.keep(Item(person, purposes, until, [len(self.kept)]))

    def er_make(self, kind, purposes, of):
        if kind != PLAIN and kind != COUNTED:
            return -WRONG
        if not are_purposes(purposes) or not are_parts(of):
            return -WRONG
        # Every part is asked for -2 before any is asked for -13: both are due at one moment.
        if not all([self.is_there(number) for number in of]):
            return -ABSENT
        if not all([self.kept[number].has_all(purposes) for number in of]):
            return -DENIED
        if self.is_full():
            return -FULL
        return self.keep(Item(None, purposes, None, self.inside_made(kind, of)))

    def er_use(self, number, purpose):
        if not self.is_there(number):
            return -ABSENT
        if purpose > LAST_PURPOSE:
            return -WRONG
        if not self.kept[number].has_all(1 << purpose):
            return -DENIED
        return 1

    def er_back(self, number, purposes):
        if not self.is_there(number):
            return -ABSENT
        if not self.kept[number].is_given() or not are_purposes(purposes):
            return -WRONG
        newly_erased = 0
        for item in self.kept:
            if not item.erased and number in item.inside:
                item.lose(purposes)
                if item.erased:
                    newly_erased = newly_erased + 1
        return newly_erased

    def is_full(self):
        return len(self.kept) >= MOST_ITEMS

    def is_there(self, number):
        return number < len(self.kept) and not self.kept[number].erased

    def keep(self, item):
        self.kept.append(item)
        return len(self.kept) - 1

    def inside_made(self, kind, of):
        found = {}
        for number in of:
            for given in self.kept[number].inside:
                found[given] = True
        if kind == COUNTED and self.people_of(list(found)) >= self.many:
            return []
        return sorted(found)

    def people_of(self, given):
        return len(set([self.kept[number].person for number in given]))


def end_of_call(calls, begin):
    end = begin + 1 + NUMBERS_OF_CALL[calls[begin]]
    if calls[begin] == ER_MAKE:
        return end + 1 + calls[end]
    return end


def answer_to(desk, call):
    if call[0] == ER_START:
        return desk.er_start(call[1])
    if call[0] == ER_GIVE:
        return desk.er_give(call[1], call[2], call[3])
    if call[0] == ER_MAKE:
        # call[3] is how many numbers the row has.
        return desk.er_make(call[1], call[2], call[4:])
    if call[0] == ER_USE:
        return desk.er_use(call[1], call[2])
    # er_back is the one call that is left.
    return desk.er_back(call[1], call[2])


def answers(calls):
    desk = Desk()
    told = []
    begin = 0
    while begin < len(calls):
        end = end_of_call(calls, begin)
        answer = [NUMBER_FORM, answer_to(desk, calls[begin:end])]
        told.append(len(answer))
        told.extend(answer)
        begin = end
    return told
