"""The town: the desks, the hall, the roads between them, and the deeds that are done there."""

from copydesks.desks import Desk
from copydesks.errors import NoDesk, NoLetter, NoPage
from copydesks.hall import Hall

DONE = "done"
WAITS = "waits"


class Town:
    def __init__(self, count, numbers):
        self.page_count = len(numbers)
        self.hall = Hall(numbers)
        self.desks = [Desk() for desk in range(count)]
        self.roads_up = [[] for desk in range(count)]
        self.roads_down = [[] for desk in range(count)]
        self.row = []

    def do_deed(self, deed):
        # The checks stand in the order of the refusals: the desk, the page, and then what the desk or road says.
        word = deed[0]
        desk = deed[1]
        self.check_desk(desk)
        if word == "up":
            return self.bring_up(desk)
        if word == "down":
            return self.bring_down(desk)
        page = deed[2]
        self.check_page(page)
        if word == "rest":
            return self.give_up(desk, page)
        if word == "look":
            return self.look_at(desk, page)
        return self.put_on(desk, page, deed[3])

    def check_desk(self, desk):
        if desk < 0 or desk >= len(self.desks):
            # The number is left out of the words: Python won't write one of many thousand figures.
            raise NoDesk("there is no such desk")

    def check_page(self, page):
        if page < 0 or page >= self.page_count:
            raise NoPage("there is no such page")

    def look_at(self, desk, page):
        done = self.carry_out(desk, self.desks[desk].want(("look", page)))
        return done[0][2] if done else WAITS

    def put_on(self, desk, page, number):
        done = self.carry_out(desk, self.desks[desk].want(("put", page, number)))
        return DONE if done else WAITS

    def give_up(self, desk, page):
        self.roads_up[desk].extend(self.desks[desk].rest(page))
        return DONE

    def bring_up(self, desk):
        letter = self.first_letter(self.roads_up[desk])
        pairs = self.hall.take(desk, letter)
        for receiver, sent in pairs:
            self.roads_down[receiver].append(sent)
        return letter

    def bring_down(self, desk):
        letter = self.first_letter(self.roads_down[desk])
        self.carry_out(desk, self.desks[desk].take(letter))
        return letter

    def first_letter(self, road):
        if not road:
            raise NoLetter("there is no letter on the road")
        return road.pop(0)

    def carry_out(self, desk, told):
        # `told` is the pair that a desk tells: what was done belongs into the row, the letters on the road.
        for word, page, number in told[0]:
            self.row.append((word, desk, page, number))
        self.roads_up[desk].extend(told[1])
        return told[0]

    def all_rights(self):
        return [self.rights_of(desk) for desk in self.desks]

    def rights_of(self, desk):
        return [desk.right_of(page) for page in range(self.page_count)]

    def waiting_desks(self):
        return [number for number, desk in enumerate(self.desks) if desk.waits()]
