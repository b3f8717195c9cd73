"""Points 2, 17 and 18 in the town itself: which class refuses a deed, and how the parts stand together."""

import copy
import unittest

from copydesks.errors import CopyError, NoCopy, NoDesk, NoLetter, NoPage, Waiting
from copydesks.story import answer_of
from copydesks.town import Town


def town_after(*deeds):
    town = Town(2, [5, 7])
    for deed in deeds:
        town.do_deed(deed)
    return town


def state(town):
    """All that the town keeps, down to the desks' copies and what the hall knows of each page."""
    return copy.deepcopy((town.roads_up, town.roads_down, town.row, [vars(desk) for desk in town.desks],
                          [vars(loans) for loans in town.hall.pages]))


class TestRefusals(unittest.TestCase):
    # (the deed, the class, the text)
    REFUSED = [
        (("look", 2, 0), NoDesk, "no desk"),
        (("put", -1, 0, 3), NoDesk, "no desk"),
        (("rest", 2, 2), NoDesk, "no desk"),
        (("up", -1), NoDesk, "no desk"),
        (("down", 2), NoDesk, "no desk"),
        (("look", 0, 2), NoPage, "no page"),
        (("put", 1, -1, 3), NoPage, "no page"),
        (("rest", 1, 2), NoPage, "no page"),
        (("look", 0, 0), Waiting, "waiting"),
        (("put", 0, 1, 3), Waiting, "waiting"),
        (("rest", 0, 1), NoCopy, "no copy"),
        (("rest", 1, 0), NoCopy, "no copy"),
        (("up", 1), NoLetter, "no letter"),
        (("down", 0), NoLetter, "no letter"),
    ]

    def town(self):
        return town_after(("put", 0, 0, 6), ("up", 0), ("down", 0), ("look", 0, 1))

    def test_each_refuses_with_its_class_and_changes_nothing(self):
        for deed, refusal, text in self.REFUSED:
            with self.subTest(deed=deed):
                town = self.town()
                before = state(town)
                with self.assertRaises(CopyError) as caught:
                    town.do_deed(deed)
                self.assertIs(type(caught.exception), refusal)
                self.assertEqual(state(town), before)

    def test_each_is_answered_with_its_text_and_changes_nothing(self):
        for deed, refusal, text in self.REFUSED:
            with self.subTest(deed=deed):
                town = self.town()
                before = state(town)
                self.assertEqual(answer_of(town, deed), text)
                self.assertEqual(state(town), before)


class TestParts(unittest.TestCase):
    def test_two_towns_know_nothing_of_one_another(self):
        one = town_after(("put", 0, 0, 6), ("up", 0), ("down", 0))
        two = town_after()
        self.assertEqual(state(two), state(Town(2, [5, 7])))
        two.do_deed(("look", 0, 0))
        two.do_deed(("up", 0))
        self.assertEqual(two.do_deed(("down", 0)), ("lend", 0, "read", 5))
        self.assertEqual(one.do_deed(("look", 0, 0)), 6)

    def test_a_later_change_of_the_numbers_does_not_reach_the_town(self):
        numbers = [5, 7]
        town = Town(2, numbers)
        numbers[0] = 99
        numbers.append(8)
        self.assertRaises(NoPage, town.do_deed, ("look", 0, 2))
        town.do_deed(("look", 0, 0))
        town.do_deed(("up", 0))
        self.assertEqual(town.do_deed(("down", 0)), ("lend", 0, "read", 5))
        self.assertEqual(numbers, [99, 7, 8])

    def test_the_desks_that_wait(self):
        town = town_after(("look", 1, 0))
        self.assertEqual(town.waiting_desks(), [1])
        self.assertEqual([desk.waits() for desk in town.desks], [False, True])
        town.do_deed(("put", 0, 1, 4))
        self.assertEqual(town.waiting_desks(), [0, 1])


if __name__ == "__main__":
    unittest.main()
