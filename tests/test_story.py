"""Points 1, 2 and 14 to 18 over whole stories, worked out by hand, and points 3 to 13 as far as they show there."""

import copy
import unittest

from copydesks.story import answers, left_after, rights_after, row_of

LONG = 10 ** 32 - 1
NUMBERS = [0, 1, -1, 10 ** 31, -(10 ** 31), LONG, -LONG, 10 ** 40, -(10 ** 40)]


def deeds_of(told):
    return [deed for deed, answer in told]


def lent(desk, page, right, number, word=None):
    """A desk asks with a wish and the page is lent to it, with nobody else in its way."""
    wish = ("look", desk, page) if right == "read" else ("put", desk, page, word)
    return [
        (wish, "waits"),
        (("up", desk), ("ask", page, right)),
        (("down", desk), ("lend", page, right, number)),
    ]


class StoryCase(unittest.TestCase):
    def tell(self, count, numbers, told, row=None, left=None):
        """Checks the answers, and the row and what is left where they are told; gives the deeds."""
        deeds = deeds_of(told)
        found = answers(count, list(numbers), deeds)
        self.assertIs(type(found), list)
        for place, (deed, answer) in enumerate(told):
            self.assertEqual((place, deed, found[place]), (place, deed, answer))
            self.assertIs(type(found[place]), type(answer))
        self.assertEqual(len(found), len(told))
        if row is not None:
            found_row = row_of(count, list(numbers), deeds)
            self.assertIs(type(found_row), list)
            self.assertTrue(all(type(thing) is tuple for thing in found_row))
            self.assertEqual(found_row, row)
        if left is not None:
            self.check_left(left_after(count, list(numbers), deeds), left)
        return deeds

    def check_left(self, found, left):
        self.assertIs(type(found), tuple)
        self.assertEqual(len(found), 3)
        for part in found:
            self.assertIs(type(part), list)
        for road in found[1] + found[2]:
            self.assertIs(type(road), list)
            self.assertTrue(all(type(letter) is tuple for letter in road))
        self.assertEqual(found, left)

    def check_rights(self, count, numbers, deeds, last):
        """The rights behind the last deed; and behind all of them, they are of the kinds told."""
        found = rights_after(count, list(numbers), deeds)
        self.assertIs(type(found), list)
        self.assertEqual(len(found), len(deeds))
        for behind in found:
            self.assertIs(type(behind), list)
            self.assertEqual(len(behind), count)
            for rights in behind:
                self.assertIs(type(rights), list)
                self.assertEqual(len(rights), len(numbers))
        self.assertEqual(found[-1], last)


class TestNoDeed(StoryCase):
    def test_nothing_comes_of_no_deed(self):
        for count in (1, 2, 20):
            for pages in (1, 3, 20):
                with self.subTest(count=count, pages=pages):
                    numbers = [7] * pages
                    self.assertEqual(answers(count, numbers, []), [])
                    self.assertEqual(row_of(count, numbers, []), [])
                    self.assertEqual(rights_after(count, numbers, []), [])
                    self.check_left(left_after(count, numbers, []), ([], [[]] * count, [[]] * count))

    def test_all_rights_are_none_at_the_beginning(self):
        # A refused deed shows them, since it changes nothing.
        self.check_rights(2, [7, 8, 9], [("up", 0)], [["none"] * 3] * 2)


class TestOneDeskOnePage(StoryCase):
    STORY = [
        (("look", 0, 0), "waits"),
        (("down", 0), "no letter"),
        (("up", 0), ("ask", 0, "read")),
        (("up", 0), "no letter"),
        (("down", 0), ("lend", 0, "read", 5)),
        (("look", 0, 0), 5),
        (("put", 0, 0, 6), "waits"),
        (("look", 0, 0), "waiting"),
        (("up", 0), ("ask", 0, "write")),
        (("down", 0), ("lend", 0, "write", 5)),
        (("look", 0, 0), 6),
        (("put", 0, 0, 7), "done"),
        (("look", 0, 0), 7),
        (("rest", 0, 0), "done"),
        (("rest", 0, 0), "no copy"),
        (("look", 0, 0), "waits"),
        (("up", 0), ("gave", 0, 7)),
        (("up", 0), ("ask", 0, "read")),
        (("down", 0), ("lend", 0, "read", 7)),
        (("rest", 0, 0), "done"),
        (("up", 0), "no letter"),
    ]
    ROW = [("look", 0, 0, 5), ("look", 0, 0, 5), ("put", 0, 0, 6), ("look", 0, 0, 6), ("put", 0, 0, 7),
           ("look", 0, 0, 7), ("look", 0, 0, 7)]
    RIGHTS = ["none"] * 4 + ["read"] * 5 + ["write"] * 4 + ["none"] * 5 + ["read"] + ["none"] * 2

    def test_answers_row_and_what_is_left(self):
        self.tell(1, [5], self.STORY, self.ROW, ([], [[]], [[]]))

    def test_rights_behind_each_deed(self):
        found = rights_after(1, [5], deeds_of(self.STORY))
        self.assertEqual(found, [[[right]] for right in self.RIGHTS])

    def test_each_beginning_of_the_story(self):
        deeds = deeds_of(self.STORY)
        for end in range(len(deeds) + 1):
            self.assertEqual(answers(1, [5], deeds[:end]), [answer for deed, answer in self.STORY[:end]])
            row = row_of(1, [5], deeds[:end])
            self.assertEqual(row, self.ROW[:len(row)])
            self.assertEqual(rights_after(1, [5], deeds[:end]), [[[right]] for right in self.RIGHTS[:end]])

    def test_what_is_left_behind_each_of_the_first_deeds(self):
        ask = ("ask", 0, "read")
        lend = ("lend", 0, "read", 5)
        lefts = [([0], [[ask]], [[]])] * 2 + [([0], [[]], [[lend]])] * 2 + [([], [[]], [[]])] * 2
        deeds = deeds_of(self.STORY)
        for end, left in enumerate(lefts, start=1):
            self.check_left(left_after(1, [5], deeds[:end]), left)

    def test_letters_left_in_their_order(self):
        self.tell(1, [5], self.STORY[:16], left=([0], [[("gave", 0, 7), ("ask", 0, "read")]], [[]]))


class TestSeveralDesks(StoryCase):
    def test_readers_and_then_a_writer(self):
        told = lent(2, 0, "read", 5) + lent(0, 0, "read", 5) + [
            (("put", 1, 0, 9), "waits"),
            (("up", 1), ("ask", 0, "write")),
            (("look", 2, 0), 5),
            (("down", 2), ("back", 0, "none")),
            (("look", 0, 0), 5),
            (("down", 1), "no letter"),
            (("up", 2), ("answer", 0, None)),
            (("down", 1), "no letter"),
            (("down", 0), ("back", 0, "none")),
            (("up", 0), ("answer", 0, None)),
            (("down", 1), ("lend", 0, "write", 5)),
            (("look", 1, 0), 9),
        ]
        row = [("look", 2, 0, 5), ("look", 0, 0, 5), ("look", 2, 0, 5), ("look", 0, 0, 5), ("put", 1, 0, 9),
               ("look", 1, 0, 9)]
        deeds = self.tell(3, [5], told, row, ([], [[]] * 3, [[]] * 3))
        self.check_rights(3, [5], deeds, [["none"], ["write"], ["none"]])

    def test_a_writer_and_then_a_reader(self):
        told = lent(0, 0, "write", 5, 6) + [
            (("look", 1, 0), "waits"),
            (("up", 1), ("ask", 0, "read")),
            (("put", 0, 0, 7), "done"),
            (("down", 0), ("back", 0, "read")),
            (("look", 0, 0), 7),
            (("put", 0, 0, 8), "waits"),
            (("up", 0), ("answer", 0, 7)),
            (("down", 1), ("lend", 0, "read", 7)),
            (("look", 1, 0), 7),
            (("up", 0), ("ask", 0, "write")),
            (("down", 1), ("back", 0, "none")),
            (("up", 1), ("answer", 0, None)),
            (("down", 0), ("lend", 0, "write", 7)),
            (("look", 0, 0), 8),
        ]
        row = [("put", 0, 0, 6), ("put", 0, 0, 7), ("look", 0, 0, 7), ("look", 1, 0, 7), ("look", 1, 0, 7),
               ("put", 0, 0, 8), ("look", 0, 0, 8)]
        deeds = self.tell(2, [5], told, row, ([], [[]] * 2, [[]] * 2))
        self.check_rights(2, [5], deeds, [["write"], ["none"]])
        rights = rights_after(2, [5], deeds)
        self.assertEqual(rights[5], [["write"], ["none"]])
        self.assertEqual(rights[6], [["read"], ["none"]])
        self.assertEqual(rights[10], [["read"], ["read"]])

    def test_a_writer_and_then_another(self):
        told = lent(0, 0, "write", 5, 6) + [
            (("put", 1, 0, 7), "waits"),
            (("up", 1), ("ask", 0, "write")),
            (("down", 0), ("back", 0, "none")),
            (("look", 0, 0), "waits"),
            (("up", 0), ("answer", 0, 6)),
            (("up", 0), ("ask", 0, "read")),
            (("down", 1), ("lend", 0, "write", 6)),
            (("down", 1), ("back", 0, "read")),
            (("up", 1), ("answer", 0, 7)),
            (("down", 0), ("lend", 0, "read", 7)),
        ]
        row = [("put", 0, 0, 6), ("put", 1, 0, 7), ("look", 0, 0, 7)]
        self.tell(2, [5], told, row, ([], [[]] * 2, [[]] * 2))

    def test_the_desks_that_wait_rise(self):
        told = [(("look", desk, 0), "waits") for desk in (3, 0, 2)]
        ask = ("ask", 0, "read")
        self.tell(5, [5], told, [], ([0, 2, 3], [[ask], [], [ask], [ask], []], [[]] * 5))

    def test_the_hall_serves_in_the_order_in_which_letters_came(self):
        told = [(("put", desk, 0, 10 + desk), "waits") for desk in (0, 1, 2)] + [
            (("up", desk), ("ask", 0, "write")) for desk in (2, 0, 1)] + [
            (("down", 2), ("lend", 0, "write", 5)),
            (("down", 2), ("back", 0, "none")),
            (("up", 2), ("answer", 0, 12)),
            (("down", 0), ("lend", 0, "write", 12)),
            (("down", 0), ("back", 0, "none")),
            (("up", 0), ("answer", 0, 10)),
            (("down", 1), ("lend", 0, "write", 10)),
        ]
        row = [("put", 2, 0, 12), ("put", 0, 0, 10), ("put", 1, 0, 11)]
        self.tell(3, [5], told, row, ([], [[]] * 3, [[]] * 3))

    def test_twenty_desks_and_twenty_pages(self):
        numbers = [100 * page for page in range(20)]
        told = []
        row = []
        for desk in range(20):
            for page in range(20):
                told += lent(desk, page, "read", 100 * page)
                row.append(("look", desk, page, 100 * page))
        told += [(("put", 19, 19, -3), "waits"), (("up", 19), ("ask", 19, "write"))]
        told += [(("down", desk), ("back", 19, "none")) for desk in reversed(range(19))]
        told += [(("up", desk), ("answer", 19, None)) for desk in range(19)]
        told += [(("down", 19), ("lend", 19, "write", 1900)), (("look", 19, 19), -3), (("look", 18, 18), 1800)]
        row += [("put", 19, 19, -3), ("look", 19, 19, -3), ("look", 18, 18, 1800)]
        deeds = self.tell(20, numbers, told, row, ([], [[]] * 20, [[]] * 20))
        self.check_rights(20, numbers, deeds, [["read"] * 19 + ["none"]] * 19 + [["read"] * 19 + ["write"]])

    def test_somewhat_more_than_twenty(self):
        told = lent(24, 22, "write", 22, 7) + [(("look", 25, 0), "no desk"), (("look", 24, 23), "no page")]
        self.tell(25, list(range(23)), told, [("put", 24, 22, 7)], ([], [[]] * 25, [[]] * 25))

    def test_none_at_all(self):
        self.assertEqual(answers(0, [5], [("look", 0, 0), ("up", 0)]), ["no desk", "no desk"])
        self.assertEqual(rights_after(0, [5], [("up", 0)]), [[]])
        self.assertEqual(left_after(0, [5], []), ([], [], []))
        self.assertEqual(answers(1, [], [("look", 0, 0), ("up", 0)]), ["no page", "no letter"])
        self.assertEqual(rights_after(1, [], [("up", 0)]), [[[]]])


class TestRoads(StoryCase):
    def test_letters_come_in_the_order_in_which_they_were_sent(self):
        told = lent(0, 0, "write", 5, 6) + lent(0, 1, "write", 7, 8) + [
            (("rest", 0, 1), "done"),
            (("rest", 0, 0), "done"),
            (("look", 0, 1), "waits"),
        ]
        road = [("gave", 1, 8), ("gave", 0, 6), ("ask", 1, "read")]
        self.tell(2, [5, 7], told, left=([0], [road, []], [[], []]))
        told += [(("up", 0), letter) for letter in road] + [(("up", 0), "no letter")]
        self.tell(2, [5, 7], told, left=([0], [[], []], [[("lend", 1, "read", 8)], []]))

    def test_letters_down_come_in_the_order_in_which_they_were_sent(self):
        told = lent(0, 0, "write", 5, 6) + lent(0, 1, "write", 7, 8) + [
            (("look", 1, 1), "waits"),
            (("look", 2, 0), "waits"),
            (("look", 0, 2), "waits"),
            (("up", 1), ("ask", 1, "read")),
            (("up", 0), ("ask", 2, "read")),
            (("up", 2), ("ask", 0, "read")),
        ]
        road = [("back", 1, "read"), ("lend", 2, "read", 9), ("back", 0, "read")]
        self.tell(3, [5, 7, 9], told, left=([0, 1, 2], [[], [], []], [road, [], []]))
        told += [(("down", 0), letter) for letter in road] + [(("down", 0), "no letter")]
        self.tell(3, [5, 7, 9], told, left=([1, 2], [[("answer", 1, 8), ("answer", 0, 6)], [], []], [[], [], []]))

    def test_only_the_first_letter_comes(self):
        told = lent(0, 0, "write", 5, 6) + [
            (("rest", 0, 0), "done"),
            (("put", 0, 0, 7), "waits"),
            (("up", 0), ("gave", 0, 6)),
        ]
        self.tell(1, [5], told, left=([0], [[("ask", 0, "write")]], [[]]))

    def test_the_roads_are_their_own(self):
        told = [(("look", 0, 0), "waits"), (("look", 1, 0), "waits"), (("up", 1), ("ask", 0, "read"))]
        left = ([0, 1], [[("ask", 0, "read")], []], [[], [("lend", 0, "read", 5)]])
        self.tell(2, [5], told, left=left)
        told += [(("up", 1), "no letter"), (("down", 0), "no letter"), (("up", 0), ("ask", 0, "read"))]
        left = ([0, 1], [[], []], [[("lend", 0, "read", 5)], [("lend", 0, "read", 5)]])
        self.tell(2, [5], told, left=left)

    def test_one_letter_up_sends_several_down(self):
        told = lent(0, 0, "write", 5, 6) + [
            (("look", 1, 0), "waits"), (("look", 2, 0), "waits"), (("put", 3, 0, 7), "waits"),
            (("up", 2), ("ask", 0, "read")), (("up", 1), ("ask", 0, "read")), (("up", 3), ("ask", 0, "write")),
            (("down", 0), ("back", 0, "read")), (("up", 0), ("answer", 0, 6)),
        ]
        lend = ("lend", 0, "read", 6)
        bid = ("back", 0, "none")
        self.tell(4, [5], told, left=([1, 2, 3], [[]] * 4, [[bid], [lend, bid], [lend, bid], []]))

    def test_the_row_follows_the_order_in_which_loans_come(self):
        start = [(("look", desk, 0), "waits") for desk in (0, 1, 2)] + [
            (("up", desk), ("ask", 0, "read")) for desk in (0, 1, 2)]
        for order in ((0, 1, 2), (2, 0, 1), (1, 2, 0)):
            told = start + [(("down", desk), ("lend", 0, "read", 5)) for desk in order]
            self.tell(3, [5], told, [("look", desk, 0, 5) for desk in order])


class TestGivingUp(StoryCase):
    def test_while_it_waits_for_another_page(self):
        told = lent(0, 0, "write", 5, 6) + [
            (("look", 0, 1), "waits"),
            (("rest", 0, 0), "done"),
            (("rest", 0, 1), "no copy"),
            (("up", 0), ("ask", 1, "read")),
            (("up", 0), ("gave", 0, 6)),
            (("down", 0), ("lend", 1, "read", 7)),
        ]
        deeds = self.tell(1, [5, 7], told, [("put", 0, 0, 6), ("look", 0, 1, 7)], ([], [[]], [[]]))
        self.check_rights(1, [5, 7], deeds, [["none", "read"]])

    def test_while_its_own_ask_for_that_page_is_on_the_road(self):
        told = lent(0, 0, "read", 5) + [
            (("put", 0, 0, 6), "waits"),
            (("rest", 0, 0), "done"),
            (("rest", 0, 0), "no copy"),
            (("up", 0), ("ask", 0, "write")),
            (("up", 0), "no letter"),
            (("down", 0), ("lend", 0, "write", 5)),
            (("look", 0, 0), 6),
        ]
        self.tell(1, [5], told, [("look", 0, 0, 5), ("put", 0, 0, 6), ("look", 0, 0, 6)], ([], [[]], [[]]))

    def test_a_writer_while_it_is_bid_to_go_down(self):
        for wish, right, bid in ((("look", 1, 0), "read", "read"), (("put", 1, 0, 9), "write", "none")):
            with self.subTest(right=right):
                told = lent(0, 0, "write", 5, 6) + [
                    (wish, "waits"),
                    (("up", 1), ("ask", 0, right)),
                    (("rest", 0, 0), "done"),
                    (("down", 0), ("back", 0, bid)),
                    (("up", 0), ("gave", 0, 6)),
                    (("down", 1), "no letter"),
                    (("up", 0), ("answer", 0, None)),
                    (("down", 1), ("lend", 0, right, 6)),
                ]
                row = [("put", 0, 0, 6), (wish[0], 1, 0, 6 if right == "read" else 9)]
                deeds = self.tell(2, [5], told, row, ([], [[]] * 2, [[]] * 2))
                self.check_rights(2, [5], deeds, [["none"], [right]])
                # The desk that gave the page up is neither writer nor reader, so nobody else is bid.
                more = told + [(("put", 1, 0, 10), "waits" if right == "read" else "done")]
                more += [(("up", 1), ("ask", 0, "write")), (("down", 1), ("lend", 0, "write", 6))] * (right == "read")
                self.tell(2, [5], more, left=([], [[]] * 2, [[]] * 2))

    def test_a_reader_while_it_is_bid_to_go_down(self):
        told = lent(0, 0, "read", 5) + [
            (("put", 1, 0, 9), "waits"),
            (("up", 1), ("ask", 0, "write")),
            (("rest", 0, 0), "done"),
            (("up", 0), "no letter"),
            (("down", 0), ("back", 0, "none")),
            (("up", 0), ("answer", 0, None)),
            (("down", 1), ("lend", 0, "write", 5)),
        ]
        self.tell(2, [5], told, [("look", 0, 0, 5), ("put", 1, 0, 9)], ([], [[]] * 2, [[]] * 2))

    def test_a_reader_without_the_halls_knowing_is_bid_all_the_same(self):
        told = lent(0, 0, "read", 5) + [
            (("rest", 0, 0), "done"),
            (("look", 0, 0), "waits"),
            (("put", 1, 0, 9), "waits"),
            (("up", 1), ("ask", 0, "write")),
            (("up", 0), ("ask", 0, "read")),
            (("down", 0), ("back", 0, "none")),
            (("up", 0), ("answer", 0, None)),
            (("down", 1), ("lend", 0, "write", 5)),
            (("down", 1), ("back", 0, "read")),
            (("up", 1), ("answer", 0, 9)),
            (("down", 0), ("lend", 0, "read", 9)),
        ]
        row = [("look", 0, 0, 5), ("put", 1, 0, 9), ("look", 0, 0, 9)]
        self.tell(2, [5], told, row, ([], [[]] * 2, [[]] * 2))

    def test_a_writer_that_asks_again_before_its_letters_came(self):
        told = lent(0, 0, "write", 5, 6) + [
            (("put", 1, 0, 9), "waits"),
            (("up", 1), ("ask", 0, "write")),
            (("rest", 0, 0), "done"),
            (("put", 0, 0, 8), "waits"),
            (("down", 0), ("back", 0, "none")),
            (("up", 0), ("gave", 0, 6)),
            (("up", 0), ("ask", 0, "write")),
            (("up", 0), ("answer", 0, None)),
            (("down", 1), ("lend", 0, "write", 6)),
            (("rest", 1, 0), "done"),
            (("down", 1), ("back", 0, "none")),
            (("up", 1), ("gave", 0, 9)),
            (("up", 1), ("answer", 0, None)),
            (("down", 0), ("lend", 0, "write", 9)),
        ]
        row = [("put", 0, 0, 6), ("put", 1, 0, 9), ("put", 0, 0, 8)]
        self.tell(2, [5], told, row, ([], [[]] * 2, [[]] * 2))

    def test_bid_to_go_down_while_it_waits_to_put(self):
        told = lent(0, 0, "read", 5) + lent(1, 0, "read", 5) + [
            (("put", 0, 0, 6), "waits"),
            (("put", 1, 0, 7), "waits"),
            (("up", 1), ("ask", 0, "write")),
            (("down", 0), ("back", 0, "none")),
            (("rest", 0, 0), "no copy"),
            (("up", 0), ("ask", 0, "write")),
            (("up", 0), ("answer", 0, None)),
            (("down", 1), ("lend", 0, "write", 5)),
            (("down", 1), ("back", 0, "none")),
            (("up", 1), ("answer", 0, 7)),
            (("down", 0), ("lend", 0, "write", 7)),
        ]
        row = [("look", 0, 0, 5), ("look", 1, 0, 5), ("put", 1, 0, 7), ("put", 0, 0, 6)]
        self.tell(2, [5], told, row, ([], [[]] * 2, [[]] * 2))


class TestNumbers(StoryCase):
    def test_of_any_length_and_sign(self):
        for first in NUMBERS:
            for number in NUMBERS:
                with self.subTest(first=first, number=number):
                    told = lent(0, 1, "read", first) + [(("look", 0, 1), first)] + [
                        (("put", 0, 1, number), "waits"),
                        (("up", 0), ("ask", 1, "write")),
                        (("down", 0), ("lend", 1, "write", first)),
                        (("look", 0, 1), number),
                        (("put", 0, 1, first), "done"),
                        (("put", 0, 1, number), "done"),
                        (("look", 1, 1), "waits"),
                        (("up", 1), ("ask", 1, "read")),
                        (("down", 0), ("back", 1, "read")),
                        (("up", 0), ("answer", 1, number)),
                        (("down", 1), ("lend", 1, "read", number)),
                        (("look", 1, 1), number),
                    ]
                    row = [("look", 0, 1, first)] * 2 + [("put", 0, 1, number), ("look", 0, 1, number),
                           ("put", 0, 1, first), ("put", 0, 1, number)] + [("look", 1, 1, number)] * 2
                    self.tell(2, [3, first], told, row)

    def test_given_up(self):
        for number in NUMBERS:
            told = lent(0, 0, "write", 5, number) + [(("rest", 0, 0), "done"), (("up", 0), ("gave", 0, number))]
            told += lent(1, 0, "read", number)
            self.tell(2, [5], told, [("put", 0, 0, number), ("look", 1, 0, number)])


class TestRefusals(StoryCase):
    # Desk 0 has `write` for page 0 and waits for page 1, desk 1 has `read` for page 2 and doesn't wait,
    # desk 2 has nothing and doesn't wait; no letter is on a road but one: desk 0's ask.
    START = lent(0, 0, "write", 5, 6) + lent(1, 2, "read", 9) + [(("look", 0, 1), "waits")]
    NUMBERS = [5, 7, 9]
    COUNT = 3
    NO_DESKS = [-1, -2, -3, -4, -(10 ** 40), 3, 4, 10 ** 40]
    NO_PAGES = [-1, -2, -3, -4, -(10 ** 40), 3, 4, 10 ** 40]

    def check_refused(self, deed, answer):
        """The deed is answered with that text, and changes nothing of what comes behind it."""
        with self.subTest(deed=deed):
            start = deeds_of(self.START)
            end = [("rest", 0, 0), ("up", 0), ("up", 0), ("up", 0), ("down", 0), ("look", 1, 2), ("put", 1, 1, 3),
                   ("up", 1), ("down", 0), ("up", 0), ("down", 1), ("look", 2, 0), ("up", 2), ("down", 2)]
            args = (self.COUNT, list(self.NUMBERS))
            self.assertEqual(answers(*args, start + [deed])[-1], answer)
            self.assertEqual(answers(*args, start + [deed] + end),
                             answers(*args, start) + [answer] + answers(*args, start + end)[len(start):])
            self.assertEqual(row_of(*args, start + [deed]), row_of(*args, start))
            self.assertEqual(row_of(*args, start + [deed] + end), row_of(*args, start + end))
            self.assertEqual(left_after(*args, start + [deed]), left_after(*args, start))
            rights = rights_after(*args, start)
            self.assertEqual(rights_after(*args, start + [deed]), rights + [rights[-1]])

    def test_the_start_is_as_it_is_told(self):
        deeds = self.tell(self.COUNT, self.NUMBERS, self.START, left=([0], [[("ask", 1, "read")], [], []], [[]] * 3))
        self.check_rights(self.COUNT, self.NUMBERS, deeds,
                          [["write", "none", "none"], ["none", "none", "read"], ["none", "none", "none"]])

    def test_no_desk(self):
        for desk in self.NO_DESKS:
            for page in (0, 2):
                for deed in (("look", desk, page), ("put", desk, page, 4), ("rest", desk, page)):
                    self.check_refused(deed, "no desk")
            self.check_refused(("up", desk), "no desk")
            self.check_refused(("down", desk), "no desk")

    def test_no_page(self):
        for page in self.NO_PAGES:
            for desk in (1, 2):
                for deed in (("look", desk, page), ("put", desk, page, 4), ("rest", desk, page)):
                    self.check_refused(deed, "no page")

    def test_waiting(self):
        for page in (0, 1, 2):
            self.check_refused(("look", 0, page), "waiting")
            self.check_refused(("put", 0, page, 4), "waiting")

    def test_no_copy(self):
        for desk, page in ((0, 1), (0, 2), (1, 0), (1, 1), (2, 0), (2, 2)):
            self.check_refused(("rest", desk, page), "no copy")

    def test_no_letter(self):
        for deed in (("up", 1), ("up", 2), ("down", 0), ("down", 1), ("down", 2)):
            self.check_refused(deed, "no letter")

    def test_no_desk_comes_before_no_page(self):
        for desk in self.NO_DESKS:
            for page in self.NO_PAGES:
                for deed in (("look", desk, page), ("put", desk, page, 4), ("rest", desk, page)):
                    self.check_refused(deed, "no desk")

    def test_no_page_comes_before_waiting_and_no_copy(self):
        for page in self.NO_PAGES:
            for deed in (("look", 0, page), ("put", 0, page, 4), ("rest", 0, page)):
                self.check_refused(deed, "no page")

    def test_a_desk_that_waits_may_still_give_up_and_be_refused_for_that_alone(self):
        self.check_refused(("rest", 0, 1), "no copy")
        self.tell(self.COUNT, self.NUMBERS, self.START + [(("rest", 0, 0), "done")])

    def test_the_edges_are_there(self):
        told = lent(0, 0, "read", 5) + lent(2, 2, "read", 9) + [(("rest", 2, 2), "done"), (("down", 2), "no letter")]
        self.tell(self.COUNT, self.NUMBERS, told)

    def test_desks_and_pages_too_long_for_python_to_write_out(self):
        for far in (10 ** 5000, -(10 ** 5000)):
            for deed in (("look", far, 0), ("put", far, far, 4), ("rest", far, 0), ("up", far), ("down", far)):
                self.assertTrue(answers(2, [5], [deed]) == ["no desk"])
            for deed in (("look", 1, far), ("put", 1, far, 4), ("rest", 1, far)):
                self.assertTrue(answers(2, [5], [deed]) == ["no page"])

    def test_refused_deeds_alone(self):
        deeds = [("look", 3, 0), ("put", 0, 3, 1), ("rest", 0, 0), ("up", 0), ("down", 2), ("up", -1), ("down", 3)]
        texts = ["no desk", "no page", "no copy", "no letter", "no letter", "no desk", "no desk"]
        self.tell(3, [5, 7, 9], list(zip(deeds, texts)), [], ([], [[]] * 3, [[]] * 3))
        self.assertEqual(rights_after(3, [5, 7, 9], deeds), [[["none"] * 3] * 3] * len(deeds))


class TestWhatIsHandedIn(StoryCase):
    def test_it_stays_as_it_was_and_tells_the_same_again(self):
        numbers = [5, 7, 9]
        deeds = deeds_of(TestRefusals.START) + [("put", 1, 2, 4), ("up", 1), ("down", 1), ("look", 5, 0), ("up", 2)]
        kept = copy.deepcopy((numbers, deeds))
        for part in (answers, row_of, rights_after, left_after):
            with self.subTest(part=part.__name__):
                first = part(3, numbers, deeds)
                self.assertEqual((numbers, deeds), kept)
                self.assertEqual(part(3, numbers, deeds), first)
                self.assertEqual((numbers, deeds), kept)

    def test_the_lists_given_back_are_the_callers(self):
        numbers = [5, 7, 9]
        deeds = deeds_of(TestRefusals.START)
        for part in (answers, row_of, rights_after, left_after):
            with self.subTest(part=part.__name__):
                first = part(3, numbers, deeds)
                kept = copy.deepcopy(first)
                if part is left_after:
                    for thing in first:
                        thing.clear()
                else:
                    first.clear()
                self.assertEqual(part(3, numbers, deeds), kept)

    def test_the_rights_behind_each_deed_are_lists_of_their_own(self):
        found = rights_after(2, [5], [("up", 0), ("up", 1)])
        found[0][0][0] = "scribble"
        found[0][1].append("scribble")
        self.assertEqual(found[1], [["none"], ["none"]])


if __name__ == "__main__":
    unittest.main()
