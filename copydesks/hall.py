"""The hall alone: what it knows of each page, and the letters that it sends for those that come."""

from copydesks.letters import NONE, READ, WRITE, back_letter, lend_letter


class PageLoans:
    def __init__(self, page, number):
        self.page = page
        self.number = number
        self.writer = None
        self.readers = []
        # Pairs of a desk and the right that it asked for; the first is the one that is served.
        self.asked = []
        self.awaited = 0

    def take_ask(self, desk, right):
        self.asked.append((desk, right))
        # Whoever asks behind another is served when all before it have been lent the page.
        return self.serve() if len(self.asked) == 1 else []

    def take_answer(self, number):
        # A desk that had nothing to tell answers with None, and the number that is known holds.
        if number is not None:
            self.number = number
        self.awaited -= 1
        if self.awaited != 0:
            return []
        return [self.lend()] + self.serve()

    def take_gave(self, desk, number):
        # A desk that has given up a page still answers when it is bid, so no fewer answers are awaited.
        self.number = number
        if self.writer == desk:
            self.writer = None
        return []

    def serve(self):
        sent = []
        while self.asked:
            bids = self.bids_for_first()
            if bids:
                self.awaited = len(bids)
                return sent + bids
            sent.append(self.lend())
        return sent

    def bids_for_first(self):
        asking = self.asked[0][0]
        right = self.asked[0][1]
        bids = []
        if self.writer is not None and self.writer != asking:
            bids.append((self.writer, back_letter(self.page, READ if right == READ else NONE)))
        if right == WRITE:
            bids.extend([(desk, back_letter(self.page, NONE)) for desk in self.readers if desk != asking])
        return bids

    def lend(self):
        first = self.asked.pop(0)
        if first[1] == WRITE:
            self.let_write(first[0])
        else:
            self.let_read(first[0])
        return (first[0], lend_letter(self.page, first[1], self.number))

    def let_write(self, desk):
        self.writer = desk
        self.readers = []

    def let_read(self, desk):
        if self.writer is not None:
            self.readers.append(self.writer)
            self.writer = None
        if desk not in self.readers:
            self.readers.append(desk)


class Hall:
    def __init__(self, numbers):
        self.pages = [PageLoans(page, number) for page, number in enumerate(numbers)]

    def take(self, desk, letter):
        loans = self.pages[letter[1]]
        if letter[0] == "ask":
            return loans.take_ask(desk, letter[2])
        if letter[0] == "answer":
            return loans.take_answer(letter[2])
        return loans.take_gave(desk, letter[2])


def taken_by_hall(hall, letters):
    return [hall.take(desk, letter) for desk, letter in letters]
