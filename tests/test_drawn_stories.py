"""Points 14 to 16 (and 1, 2 and 12 beneath them) over many stories that a fixed seed draws."""

import copy
import random
import unittest

from copydesks.desks import Desk
from copydesks.hall import Hall
from copydesks.story import answer_of, answers, left_after, rights_after, row_of
from copydesks.town import Town

LONG = 10 ** 32 - 1
REFUSALS = {"no desk", "no page", "waiting", "no copy", "no letter"}


def drawn_number(draw):
    return draw.choice([0, draw.randint(-9, 9), draw.randint(-LONG, LONG), LONG, -LONG])


def drawn_deed(draw, count, pages):
    """Mostly deeds that can be done; now and then a desk or a page that isn't there."""
    desk = draw.randrange(count) if draw.random() < 0.98 else draw.choice([-1, count, -LONG, LONG])
    page = draw.randrange(pages) if draw.random() < 0.98 else draw.choice([-1, pages, -LONG, LONG])
    return draw.choice([
        ("look", desk, page), ("put", desk, page, drawn_number(draw)), ("rest", desk, page),
        ("up", desk), ("up", desk), ("down", desk), ("down", desk),
    ])


def drawn_story(seed):
    draw = random.Random(seed)
    count = draw.choice([1, 2, 2, 3, 3, 4, 5, 8, 20])
    pages = draw.choice([1, 1, 1, 2, 3, 20])
    numbers = [drawn_number(draw) for page in range(pages)]
    deeds = [drawn_deed(draw, count, pages) for step in range(draw.choice([5, 40, 150, 300]))]
    return count, numbers, deeds


STORIES = [drawn_story(seed) for seed in range(400)]

# Each tells, of the roads that bear letters, told as deeds, the one on which a letter comes next.
ORDERS = {
    "drawn": lambda roads, draw: draw.choice(roads),
    "up first": lambda roads, draw: min(roads, key=lambda deed: (deed[0] == "down", deed[1])),
    "down first": lambda roads, draw: min(roads, key=lambda deed: (deed[0] == "up", deed[1])),
    "last desk first": lambda roads, draw: max(roads, key=lambda deed: (deed[1], deed[0])),
    "one desk late": lambda roads, draw: max(roads, key=lambda deed: (deed[1] != 0, draw.random())),
}


def roads_with_letters(left):
    return ([("up", desk) for desk, road in enumerate(left[1]) if road]
            + [("down", desk) for desk, road in enumerate(left[2]) if road])


def refusal_of(town, deed):
    """The text that a deed is to be refused with as the town stands, or None."""
    word, desk = deed[:2]
    if not 0 <= desk < len(town.desks):
        return "no desk"
    if word in ("up", "down"):
        road = (town.roads_up if word == "up" else town.roads_down)[desk]
        return None if road else "no letter"
    if not 0 <= deed[2] < town.page_count:
        return "no page"
    if word != "rest":
        return "waiting" if desk in town.waiting_desks() else None
    return "no copy" if town.all_rights()[desk][deed[2]] == "none" else None


class TestRow(unittest.TestCase):
    def test_each_look_tells_the_number_last_put_before_it(self):
        looks = 0
        for count, numbers, deeds in STORIES:
            last = dict(enumerate(numbers))
            for word, desk, page, number in row_of(count, numbers, deeds):
                self.assertIn(desk, range(count))
                self.assertIn(page, range(len(numbers)))
                if word == "put":
                    last[page] = number
                else:
                    self.assertEqual((word, number), ("look", last[page]))
                    looks += 1
        self.assertGreater(looks, 1000)

    def test_what_is_done_at_once_stands_in_the_row_and_nothing_twice(self):
        for count, numbers, deeds in STORIES:
            town = Town(count, numbers)
            for deed in deeds:
                before = list(town.row)
                answer = answer_of(town, deed)
                added = town.row[len(before):]
                self.assertEqual(town.row[:len(before)], before)
                if deed[0] == "look" and type(answer) is int:
                    self.assertEqual(added, [("look", deed[1], deed[2], answer)])
                elif deed[0] == "put" and answer == "done":
                    self.assertEqual(added, [deed])
                elif deed[0] == "down" and type(answer) is tuple and answer[0] == "lend":
                    self.assertLessEqual(len(added), 1)
                else:
                    self.assertEqual(added, [])
            self.assertEqual(row_of(count, numbers, deeds), town.row)


class TestRights(unittest.TestCase):
    def test_no_write_beside_another_right(self):
        written = 0
        for count, numbers, deeds in STORIES:
            for rights in rights_after(count, numbers, deeds):
                for page in range(len(numbers)):
                    held = [of_desk[page] for of_desk in rights if of_desk[page] != "none"]
                    if "write" in held:
                        self.assertEqual(held, ["write"])
                        written += 1
        self.assertGreater(written, 1000)

    def test_all_copies_that_may_be_looked_at_are_alike(self):
        several = 0
        for count, numbers, deeds in STORIES:
            town = Town(count, numbers)
            for deed in deeds:
                answer_of(town, deed)
                for page in range(len(numbers)):
                    copies = [desk.copies[page][1] for desk in town.desks if page in desk.copies]
                    self.assertLessEqual(len(set(copies)), 1)
                    several += len(copies) > 1
        self.assertGreater(several, 1000)

    def test_looks_at_the_end_of_a_story_are_alike(self):
        for count, numbers, deeds in STORIES[:120]:
            if not deeds:
                continue
            rights = rights_after(count, numbers, deeds)[-1]
            looking = [desk for desk in range(count) if desk not in left_after(count, numbers, deeds)[0]]
            for page in range(len(numbers)):
                holders = [desk for desk in looking if rights[desk][page] != "none"]
                looks = [("look", desk, page) for desk in holders]
                told = answers(count, numbers, deeds + looks)[len(deeds):]
                self.assertTrue(all(type(number) is int for number in told))
                self.assertLessEqual(len(set(told)), 1)


class TestTheEnd(unittest.TestCase):
    def drain(self, town, order, draw):
        """Lets letters come as long as there are any; gives the deeds."""
        deeds = []
        while True:
            roads = roads_with_letters((town.waiting_desks(), town.roads_up, town.roads_down))
            if not roads:
                return deeds
            deed = order(roads, draw)
            self.assertNotIn(answer_of(town, deed), REFUSALS)
            deeds.append(deed)
            # A wish brings at most a bid to each desk, its answer, and a loan.
            self.assertLess(len(deeds), 5000)

    def test_letters_and_waiting_come_to_an_end(self):
        waited = 0
        for name, order in ORDERS.items():
            for seed, (count, numbers, deeds) in enumerate(STORIES):
                with self.subTest(order=name, seed=seed):
                    town = Town(count, numbers)
                    for deed in deeds:
                        answer_of(town, deed)
                    waited += len(town.waiting_desks())
                    drained = self.drain(town, order, random.Random(seed))
                    self.assertEqual(left_after(count, numbers, deeds + drained),
                                     ([], [[] for desk in range(count)], [[] for desk in range(count)]))
        self.assertGreater(waited, 500)

    def test_every_wish_that_waited_is_done_in_the_end(self):
        for seed, (count, numbers, deeds) in enumerate(STORIES):
            town = Town(count, numbers)
            told = [answer_of(town, deed) for deed in deeds]
            self.drain(town, ORDERS["drawn"], random.Random(seed))
            wanted = [deed for deed, answer in zip(deeds, told)
                      if deed[0] in ("look", "put") and answer not in REFUSALS]
            for desk in range(count):
                # One desk's wishes are done in the order in which it had them.
                self.assertEqual([thing[:3] for thing in town.row if thing[1] == desk],
                                 [deed[:3] for deed in wanted if deed[1] == desk])
            self.assertEqual(sorted(thing for thing in town.row if thing[0] == "put"),
                             sorted(deed for deed in wanted if deed[0] == "put"))

    def test_twenty_desks_that_all_want_the_same_page(self):
        for name, order in ORDERS.items():
            draw = random.Random(name)
            town = Town(20, [5])
            for turn in range(3):
                for desk in draw.sample(range(20), 20):
                    town.do_deed(draw.choice([("look", desk, 0), ("put", desk, 0, 20 * turn + desk)]))
                self.drain(town, order, draw)
                self.assertEqual(town.waiting_desks(), [])


class TestRoads(unittest.TestCase):
    def test_letters_come_in_the_order_in_which_desks_and_hall_send_them(self):
        """The story told again with desks and hall alone and roads that the test keeps."""
        for count, numbers, deeds in STORIES:
            desks = [Desk() for desk in range(count)]
            hall = Hall(numbers)
            ups = [[] for desk in range(count)]
            downs = [[] for desk in range(count)]
            for deed, answer in zip(deeds, answers(count, numbers, deeds)):
                if answer in REFUSALS:
                    continue
                desk = deed[1]
                if deed[0] in ("look", "put"):
                    ups[desk] += desks[desk].want(deed[:1] + deed[2:])[1]
                elif deed[0] == "rest":
                    ups[desk] += desks[desk].rest(deed[2])
                elif deed[0] == "up":
                    self.assertEqual(ups[desk].pop(0), answer)
                    for receiver, letter in hall.take(desk, answer):
                        downs[receiver].append(letter)
                else:
                    self.assertEqual(downs[desk].pop(0), answer)
                    ups[desk] += desks[desk].take(answer)[1]
            self.assertEqual(left_after(count, numbers, deeds)[1:], (ups, downs))


class TestRefused(unittest.TestCase):
    def test_refused_deeds_may_be_left_out(self):
        refused = 0
        for count, numbers, deeds in STORIES:
            told = answers(count, numbers, deeds)
            kept = [deed for deed, answer in zip(deeds, told) if answer not in REFUSALS]
            refused += len(deeds) - len(kept)
            self.assertEqual(answers(count, numbers, kept), [answer for answer in told if answer not in REFUSALS])
            self.assertEqual(row_of(count, numbers, kept), row_of(count, numbers, deeds))
            self.assertEqual(left_after(count, numbers, kept), left_after(count, numbers, deeds))
        self.assertGreater(refused, 1000)

    def test_a_refused_deed_is_answered_by_what_holds_first(self):
        for count, numbers, deeds in STORIES:
            town = Town(count, numbers)
            for deed in deeds:
                refusal = refusal_of(town, deed)
                answer = answer_of(town, deed)
                if refusal is None:
                    self.assertNotIn(answer, REFUSALS)
                else:
                    self.assertEqual(answer, refusal)


class TestWhatIsHandedIn(unittest.TestCase):
    def test_it_stays_as_it_was_and_tells_the_same_again(self):
        for count, numbers, deeds in STORIES[:60]:
            kept = copy.deepcopy((numbers, deeds))
            for part in (answers, row_of, rights_after, left_after):
                first = part(count, numbers, deeds)
                self.assertEqual((numbers, deeds), kept)
                self.assertEqual(part(count, numbers, deeds), first)


if __name__ == "__main__":
    unittest.main()
