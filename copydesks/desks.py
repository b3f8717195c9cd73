"""A desk alone: its copies, the wish it may wait with, and the letters it answers with."""

from copydesks.errors import NoCopy, Waiting
from copydesks.letters import NONE, READ, WRITE, answer_letter, ask_letter, gave_letter

RANKS = {"none": 0, "read": 1, "write": 2}


def is_enough(right, needed):
    return RANKS[right] >= RANKS[needed]


def right_needed(wish):
    return WRITE if wish[0] == "put" else READ


class Desk:
    def __init__(self):
        # A page without an entry has the right `none`, so a desk need not know which pages there are.
        self.copies = {}
        self.wish = None

    def right_of(self, page):
        return self.copies[page][0] if page in self.copies else NONE

    def waits(self):
        return self.wish is not None

    def want(self, wish):
        # Waiting comes first: a desk that waits is refused even where its right is enough.
        if self.waits():
            raise Waiting("the desk waits with a wish already")
        if self.may_do(wish):
            return ([self.do_wish(wish)], [])
        self.wish = wish
        return ([], [ask_letter(wish[1], right_needed(wish))])

    def take(self, letter):
        if letter[0] == "lend":
            return (self.take_loan(letter[1], letter[2], letter[3]), [])
        return ([], [self.go_down(letter[1], letter[2])])

    def rest(self, page):
        if self.right_of(page) == NONE:
            raise NoCopy("the desk has no copy of the page")
        number = self.number_to_tell(page)
        self.hold(page, NONE, None)
        return [] if number is None else [gave_letter(page, number)]

    def may_do(self, wish):
        return is_enough(self.right_of(wish[1]), right_needed(wish))

    def do_wish(self, wish):
        page = wish[1]
        if wish[0] == "put":
            self.hold(page, self.right_of(page), wish[2])
        return (wish[0], page, self.copies[page][1])

    def take_loan(self, page, right, number):
        self.hold(page, right, number)
        wish = self.wish
        if wish is None or wish[1] != page or not self.may_do(wish):
            return []
        self.wish = None
        return [self.do_wish(wish)]

    def go_down(self, page, right):
        number = self.number_to_tell(page)
        if not is_enough(right, self.right_of(page)):
            self.hold(page, right, self.copies[page][1])
        return answer_letter(page, number)

    def number_to_tell(self, page):
        # Only a copy that may be written can bear a number that the hall doesn't know.
        return self.copies[page][1] if self.right_of(page) == WRITE else None

    def hold(self, page, right, number):
        if right == NONE:
            self.copies.pop(page, None)
        else:
            self.copies[page] = (right, number)


def taken_by_desk(desk, letters):
    return [desk.take(letter) for letter in letters]
