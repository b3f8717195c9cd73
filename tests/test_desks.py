"""Points 1, 3, 5 to 8 and 18 as far as they speak of a desk alone."""

import copy
import unittest

from copydesks.desks import Desk, taken_by_desk
from copydesks.errors import CopyError, NoCopy, Waiting

RIGHTS = ["none", "read", "write"]
PAGE = 4
OTHER = 9
LONG = 10 ** 32 - 1
NUMBERS = [0, 1, -1, 10 ** 31, -(10 ** 31), LONG, -LONG, 10 ** 40, -(10 ** 40)]
PAGES = [0, 1, 19, 20, 21, 10 ** 6, -1, -20]

# What a desk may wait with while it has a right for PAGE; None stands for a desk that doesn't wait.
# A desk never waits with a wish for PAGE that its right is enough for.
WISHES = {
    "none": [None, ("look", PAGE), ("put", PAGE, 70), ("look", OTHER), ("put", OTHER, 71)],
    "read": [None, ("put", PAGE, 70), ("look", OTHER), ("put", OTHER, 71)],
    "write": [None, ("look", OTHER), ("put", OTHER, 71)],
}


def desk_with(right, number=50, wish=None, page=PAGE):
    desk = Desk()
    if right != "none":
        desk.take(("lend", page, right, number))
    if wish is not None:
        done, letters = desk.want(wish)
        assert done == [] and len(letters) == 1
    return desk


def waits(desk):
    try:
        copy.deepcopy(desk).want(("look", 12345))
    except Waiting:
        return True
    return False


def copy_on(desk, page):
    """The number on the desk's copy, or None where it can't be told; the desk itself stays as it is."""
    twin = copy.deepcopy(desk)
    if waits(twin):
        wish = waiting_wish(twin)
        if wish[1] == page:
            # Only a loan of this very page ends the wait, and it brings a number of its own.
            return None
        twin.take(("lend", wish[1], "write", 0))
    done = twin.want(("look", page))[0]
    return done[0][2] if done else None


def waiting_wish(desk):
    """The wish that a desk waits with, found by lending twins each page that the tests wish for."""
    for page in [PAGE, OTHER] + PAGES:
        done = copy.deepcopy(desk).take(("lend", page, "write", 0))[0]
        if done:
            return done[0]
    raise AssertionError("the desk waits with a wish that the tests don't know")


def state(desk):
    """All that can be told of a desk from outside."""
    wish = waiting_wish(desk) if waits(desk) else None
    return (wish, [(page, desk.right_of(page), copy_on(desk, page)) for page in [PAGE, OTHER] + PAGES])


class DeskCase(unittest.TestCase):
    def check_pair(self, pair, done, letters):
        self.assertIs(type(pair), tuple)
        self.assertEqual(len(pair), 2)
        self.assertIs(type(pair[0]), list)
        self.assertIs(type(pair[1]), list)
        for thing in pair[0] + pair[1]:
            self.assertIs(type(thing), tuple)
        self.assertEqual(pair, (done, letters))

    def check_letters(self, letters, told):
        self.assertIs(type(letters), list)
        for letter in letters:
            self.assertIs(type(letter), tuple)
        self.assertEqual(letters, told)

    def check_refused(self, refusal, deed, desk):
        before = state(desk)
        inner = copy.deepcopy(vars(desk))
        for taken_as in (refusal, CopyError, ValueError):
            with self.assertRaises(taken_as) as caught:
                deed()
            self.assertIs(type(caught.exception), refusal)
        self.assertEqual(state(desk), before)
        self.assertEqual(vars(desk), inner)


class TestAtTheBeginning(DeskCase):
    def test_all_rights_are_none(self):
        desk = Desk()
        for page in PAGES:
            self.assertEqual(desk.right_of(page), "none")

    def test_asking_for_a_right_changes_nothing(self):
        desk = Desk()
        desk.right_of(PAGE)
        self.assertEqual(desk.right_of(PAGE), "none")
        self.assertRaises(NoCopy, desk.rest, PAGE)

    def test_a_new_desk_does_not_wait(self):
        self.assertFalse(waits(Desk()))


class TestWishes(DeskCase):
    def test_look_with_none_asks_for_read_and_waits(self):
        desk = Desk()
        self.check_pair(desk.want(("look", PAGE)), [], [("ask", PAGE, "read")])
        self.assertTrue(waits(desk))
        self.assertEqual(desk.right_of(PAGE), "none")

    def test_look_with_read_or_write_is_done_at_once(self):
        for right in ("read", "write"):
            for number in NUMBERS:
                with self.subTest(right=right, number=number):
                    desk = desk_with(right, number)
                    self.check_pair(desk.want(("look", PAGE)), [("look", PAGE, number)], [])
                    self.assertFalse(waits(desk))
                    self.assertEqual(desk.right_of(PAGE), right)
                    self.check_pair(desk.want(("look", PAGE)), [("look", PAGE, number)], [])

    def test_put_with_none_or_read_asks_for_write_and_waits(self):
        for right in ("none", "read"):
            with self.subTest(right=right):
                desk = desk_with(right)
                self.check_pair(desk.want(("put", PAGE, 7)), [], [("ask", PAGE, "write")])
                self.assertTrue(waits(desk))
                self.assertEqual(desk.right_of(PAGE), right)

    def test_a_put_that_waits_leaves_no_number_to_tell(self):
        desk = desk_with("read", 50)
        desk.want(("put", PAGE, 7))
        self.check_pair(desk.take(("back", PAGE, "read")), [], [("answer", PAGE, None)])
        self.check_letters(desk.rest(PAGE), [])

    def test_put_with_write_is_done_at_once(self):
        for number in NUMBERS:
            with self.subTest(number=number):
                desk = desk_with("write", 50)
                self.check_pair(desk.want(("put", PAGE, number)), [("put", PAGE, number)], [])
                self.assertFalse(waits(desk))
                self.assertEqual(desk.right_of(PAGE), "write")
                self.check_pair(desk.want(("look", PAGE)), [("look", PAGE, number)], [])

    def test_of_several_puts_the_last_stays(self):
        desk = desk_with("write", 50)
        for number in NUMBERS:
            desk.want(("put", PAGE, number))
        self.check_letters(desk.rest(PAGE), [("gave", PAGE, NUMBERS[-1])])

    def test_wishes_for_one_page_while_others_are_held(self):
        for held in ("read", "write"):
            with self.subTest(held=held):
                desk = desk_with(held, 50)
                self.check_pair(desk.want(("look", OTHER)), [], [("ask", OTHER, "read")])
                desk = desk_with(held, 50)
                self.check_pair(desk.want(("put", OTHER, 1)), [], [("ask", OTHER, "write")])
                self.assertEqual(desk.right_of(PAGE), held)
                self.assertEqual(desk.right_of(OTHER), "none")

    def test_a_put_on_one_page_leaves_the_others(self):
        desk = desk_with("write", 50)
        desk.take(("lend", OTHER, "write", 60))
        desk.want(("put", PAGE, 1))
        self.check_pair(desk.want(("look", OTHER)), [("look", OTHER, 60)], [])
        self.check_pair(desk.want(("look", PAGE)), [("look", PAGE, 1)], [])

    def test_pages_of_any_number(self):
        for page in PAGES:
            with self.subTest(page=page):
                self.check_pair(Desk().want(("look", page)), [], [("ask", page, "read")])
                self.check_pair(Desk().want(("put", page, 5)), [], [("ask", page, "write")])
                desk = desk_with("write", 50, page=page)
                self.check_pair(desk.want(("put", page, 5)), [("put", page, 5)], [])
                self.check_pair(desk.want(("look", page)), [("look", page, 5)], [])
                self.assertEqual([other for other in PAGES if desk.right_of(other) != "none"], [page])


class TestWaiting(DeskCase):
    def test_a_desk_that_waits_can_want_nothing(self):
        wants = [("look", PAGE), ("put", PAGE, 8), ("look", OTHER), ("put", OTHER, 8), ("look", 30), ("put", 30, 8)]
        for right in RIGHTS:
            for wish in WISHES[right][1:]:
                for want in wants:
                    with self.subTest(right=right, wish=wish, want=want):
                        desk = desk_with(right, 50, wish)
                        self.check_refused(Waiting, lambda: desk.want(want), desk)

    def test_it_can_not_even_want_what_its_right_is_enough_for(self):
        desk = desk_with("write", 50, ("look", OTHER))
        self.check_refused(Waiting, lambda: desk.want(("look", PAGE)), desk)
        self.check_refused(Waiting, lambda: desk.want(("put", PAGE, 1)), desk)
        self.check_letters(desk.rest(PAGE), [("gave", PAGE, 50)])

    def test_the_first_wish_is_the_one_that_is_done(self):
        desk = desk_with("none", wish=("put", PAGE, 70))
        self.assertRaises(Waiting, desk.want, ("put", PAGE, 80))
        self.check_pair(desk.take(("lend", PAGE, "write", 50)), [("put", PAGE, 70)], [])

    def test_a_desk_may_want_again_when_its_wish_is_done(self):
        desk = desk_with("none", wish=("look", PAGE))
        desk.take(("lend", PAGE, "read", 50))
        self.check_pair(desk.want(("put", PAGE, 1)), [], [("ask", PAGE, "write")])
        self.check_pair(desk.take(("lend", PAGE, "write", 51)), [("put", PAGE, 1)], [])
        self.check_pair(desk.want(("look", OTHER)), [], [("ask", OTHER, "read")])


class TestLoans(DeskCase):
    def test_a_page_lent_with_no_wish(self):
        for before in RIGHTS:
            for lent in ("read", "write"):
                for number in NUMBERS:
                    with self.subTest(before=before, lent=lent, number=number):
                        desk = desk_with(before, 50)
                        self.check_pair(desk.take(("lend", PAGE, lent, number)), [], [])
                        self.assertEqual(desk.right_of(PAGE), lent)
                        self.check_pair(desk.want(("look", PAGE)), [("look", PAGE, number)], [])

    def test_a_look_that_waits_is_done_with_read_and_with_write(self):
        for lent in ("read", "write"):
            for number in NUMBERS:
                with self.subTest(lent=lent, number=number):
                    desk = desk_with("none", wish=("look", PAGE))
                    self.check_pair(desk.take(("lend", PAGE, lent, number)), [("look", PAGE, number)], [])
                    self.assertEqual(desk.right_of(PAGE), lent)
                    self.assertFalse(waits(desk))
                    self.assertEqual(copy_on(desk, PAGE), number)

    def test_a_put_that_waits_is_done_with_write(self):
        for before in ("none", "read"):
            for number in NUMBERS:
                with self.subTest(before=before, number=number):
                    desk = desk_with(before, 50, ("put", PAGE, number))
                    self.check_pair(desk.take(("lend", PAGE, "write", 60)), [("put", PAGE, number)], [])
                    self.assertEqual(desk.right_of(PAGE), "write")
                    self.assertFalse(waits(desk))
                    self.check_letters(desk.rest(PAGE), [("gave", PAGE, number)])

    def test_a_put_that_waits_goes_on_waiting_with_read(self):
        for before in ("none", "read"):
            with self.subTest(before=before):
                desk = desk_with(before, 50, ("put", PAGE, 70))
                self.check_pair(desk.take(("lend", PAGE, "read", 60)), [], [])
                self.assertEqual(desk.right_of(PAGE), "read")
                self.assertTrue(waits(desk))
                self.check_pair(desk.take(("lend", PAGE, "write", 61)), [("put", PAGE, 70)], [])

    def test_a_loan_of_another_page_leaves_the_wish_waiting(self):
        for wish in (("look", OTHER), ("put", OTHER, 71)):
            for before in RIGHTS:
                for lent in ("read", "write"):
                    with self.subTest(wish=wish, before=before, lent=lent):
                        desk = desk_with(before, 50, wish)
                        self.check_pair(desk.take(("lend", PAGE, lent, 60)), [], [])
                        self.assertTrue(waits(desk))
                        self.assertEqual(desk.right_of(PAGE), lent)
                        self.assertEqual(copy_on(desk, PAGE), 60)
                        self.assertEqual(desk.right_of(OTHER), "none")
                        self.assertEqual(waiting_wish(desk)[:2], wish[:2])

    def test_a_loan_may_lower_a_right_and_then_the_right_lent_counts(self):
        desk = desk_with("write", 50)
        desk.want(("put", PAGE, 51))
        self.check_pair(desk.take(("lend", PAGE, "read", 60)), [], [])
        self.assertEqual(desk.right_of(PAGE), "read")
        self.check_pair(desk.want(("look", PAGE)), [("look", PAGE, 60)], [])
        self.check_pair(desk.want(("put", PAGE, 7)), [], [("ask", PAGE, "write")])

    def test_a_wish_is_done_but_once(self):
        desk = desk_with("none", wish=("put", PAGE, 70))
        desk.take(("lend", PAGE, "write", 50))
        self.check_pair(desk.take(("lend", PAGE, "write", 60)), [], [])
        self.assertEqual(copy_on(desk, PAGE), 60)

    def test_pages_of_any_number(self):
        for page in PAGES:
            with self.subTest(page=page):
                desk = Desk()
                desk.want(("look", page))
                self.check_pair(desk.take(("lend", page, "read", 5)), [("look", page, 5)], [])


class TestBids(DeskCase):
    # (right before, bid) -> the right behind it
    BEHIND = {
        ("none", "none"): "none",
        ("none", "read"): "none",
        ("read", "none"): "none",
        ("read", "read"): "read",
        ("write", "none"): "none",
        ("write", "read"): "read",
    }

    def test_each_bid_from_each_right_waiting_or_not(self):
        for (before, bid), behind in self.BEHIND.items():
            for wish in WISHES[before]:
                for number in NUMBERS:
                    with self.subTest(before=before, bid=bid, wish=wish, number=number):
                        desk = desk_with(before, number, wish)
                        told = number if before == "write" else None
                        self.check_pair(desk.take(("back", PAGE, bid)), [], [("answer", PAGE, told)])
                        self.assertEqual(desk.right_of(PAGE), behind)
                        self.assertEqual(waits(desk), wish is not None)
                        if wish is None or wish[1] != PAGE:
                            self.assertEqual(copy_on(desk, PAGE), None if behind == "none" else number)

    def test_the_answer_tells_the_number_last_put(self):
        for bid in ("none", "read"):
            for number in NUMBERS:
                with self.subTest(bid=bid, number=number):
                    desk = desk_with("write", 50)
                    desk.want(("put", PAGE, number))
                    self.check_pair(desk.take(("back", PAGE, bid)), [], [("answer", PAGE, number)])

    def test_a_second_bid_is_answered_with_none(self):
        for first in ("none", "read"):
            for second in ("none", "read"):
                with self.subTest(first=first, second=second):
                    desk = desk_with("write", 50)
                    desk.take(("back", PAGE, first))
                    self.check_pair(desk.take(("back", PAGE, second)), [], [("answer", PAGE, None)])
                    self.assertEqual(desk.right_of(PAGE), "none" if "none" in (first, second) else "read")

    def test_a_wish_outlasts_a_bid(self):
        for bid in ("none", "read"):
            for before in ("none", "read"):
                with self.subTest(bid=bid, before=before):
                    desk = desk_with(before, 50, ("put", PAGE, 70))
                    desk.take(("back", PAGE, bid))
                    self.check_pair(desk.take(("lend", PAGE, "write", 60)), [("put", PAGE, 70)], [])

    def test_a_bid_that_leaves_read_does_not_do_a_wish(self):
        desk = desk_with("write", 50, ("look", OTHER))
        self.check_pair(desk.take(("back", PAGE, "read")), [], [("answer", PAGE, 50)])
        self.check_pair(desk.take(("lend", OTHER, "read", 1)), [("look", OTHER, 1)], [])
        self.check_pair(desk.want(("look", PAGE)), [("look", PAGE, 50)], [])
        self.check_pair(desk.want(("put", PAGE, 2)), [], [("ask", PAGE, "write")])

    def test_a_copy_thrown_away_must_be_asked_for_again(self):
        for before in ("read", "write"):
            desk = desk_with(before, 50)
            desk.take(("back", PAGE, "none"))
            self.check_pair(desk.want(("look", PAGE)), [], [("ask", PAGE, "read")])

    def test_a_bid_for_one_page_leaves_the_others(self):
        desk = desk_with("write", 50)
        desk.take(("lend", OTHER, "write", 60))
        desk.take(("back", PAGE, "none"))
        self.assertEqual(desk.right_of(OTHER), "write")
        self.check_letters(desk.rest(OTHER), [("gave", OTHER, 60)])

    def test_pages_of_any_number(self):
        for page in PAGES:
            with self.subTest(page=page):
                self.check_pair(Desk().take(("back", page, "none")), [], [("answer", page, None)])
                desk = desk_with("write", 5, page=page)
                self.check_pair(desk.take(("back", page, "read")), [], [("answer", page, 5)])


class TestRest(DeskCase):
    def test_rest_with_none_is_refused_waiting_or_not(self):
        for wish in WISHES["none"]:
            with self.subTest(wish=wish):
                desk = desk_with("none", wish=wish)
                desk.take(("lend", 0, "write", 1))
                self.check_refused(NoCopy, lambda: desk.rest(PAGE), desk)

    def test_rest_of_a_page_too_long_for_python_to_write_out(self):
        for page in (10 ** 5000, -(10 ** 5000)):
            self.assertRaises(NoCopy, Desk().rest, page)

    def test_rest_with_read_sends_nothing(self):
        for wish in WISHES["read"]:
            with self.subTest(wish=wish):
                desk = desk_with("read", 50, wish)
                self.check_letters(desk.rest(PAGE), [])
                self.assertEqual(desk.right_of(PAGE), "none")
                self.assertEqual(waits(desk), wish is not None)

    def test_rest_with_write_sends_the_number(self):
        for wish in WISHES["write"]:
            for number in NUMBERS:
                with self.subTest(wish=wish, number=number):
                    desk = desk_with("write", number, wish)
                    self.check_letters(desk.rest(PAGE), [("gave", PAGE, number)])
                    self.assertEqual(desk.right_of(PAGE), "none")
                    self.assertEqual(waits(desk), wish is not None)

    def test_rest_tells_the_number_last_put(self):
        for number in NUMBERS:
            desk = desk_with("write", 50)
            desk.want(("put", PAGE, number))
            self.check_letters(desk.rest(PAGE), [("gave", PAGE, number)])

    def test_rest_twice_is_refused(self):
        for before in ("read", "write"):
            desk = desk_with(before)
            desk.rest(PAGE)
            self.check_refused(NoCopy, lambda: desk.rest(PAGE), desk)

    def test_rest_after_going_down(self):
        desk = desk_with("write", 50)
        desk.take(("back", PAGE, "read"))
        self.check_letters(desk.rest(PAGE), [])
        desk = desk_with("write", 50)
        desk.take(("back", PAGE, "none"))
        self.check_refused(NoCopy, lambda: desk.rest(PAGE), desk)

    def test_a_wish_outlasts_a_rest(self):
        desk = desk_with("read", 50, ("put", PAGE, 70))
        desk.rest(PAGE)
        self.check_pair(desk.take(("lend", PAGE, "write", 60)), [("put", PAGE, 70)], [])

    def test_a_copy_given_up_must_be_asked_for_again(self):
        for before in ("read", "write"):
            desk = desk_with(before, 50)
            desk.rest(PAGE)
            self.check_pair(desk.want(("look", PAGE)), [], [("ask", PAGE, "read")])

    def test_a_bid_after_a_rest_is_answered_with_none(self):
        desk = desk_with("write", 50)
        desk.rest(PAGE)
        self.check_pair(desk.take(("back", PAGE, "read")), [], [("answer", PAGE, None)])
        self.assertEqual(desk.right_of(PAGE), "none")

    def test_rest_of_one_page_leaves_the_others(self):
        desk = desk_with("write", 50)
        desk.take(("lend", OTHER, "read", 60))
        desk.rest(PAGE)
        self.check_pair(desk.want(("look", OTHER)), [("look", OTHER, 60)], [])

    def test_pages_of_any_number(self):
        for page in PAGES:
            with self.subTest(page=page):
                self.assertRaises(NoCopy, Desk().rest, page)
                self.check_letters(desk_with("write", 5, page=page).rest(page), [("gave", page, 5)])


class TestTakenByDesk(DeskCase):
    def test_no_letter(self):
        desk = desk_with("write", 50)
        self.assertEqual(taken_by_desk(desk, []), [])
        self.assertEqual(state(desk), state(desk_with("write", 50)))

    def test_one_letter(self):
        told = taken_by_desk(desk_with("write", 50), [("back", PAGE, "read")])
        self.assertIs(type(told), list)
        self.assertEqual(len(told), 1)
        self.check_pair(told[0], [], [("answer", PAGE, 50)])

    def test_several_letters_come_one_after_the_other(self):
        desk = desk_with("none", wish=("put", PAGE, 70))
        told = taken_by_desk(desk, [
            ("back", PAGE, "none"),
            ("lend", OTHER, "write", 1),
            ("lend", PAGE, "read", 2),
            ("back", PAGE, "read"),
            ("lend", PAGE, "write", 3),
            ("back", PAGE, "read"),
            ("back", PAGE, "none"),
            ("lend", PAGE, "write", -4),
            ("back", OTHER, "none"),
        ])
        self.assertEqual(told, [
            ([], [("answer", PAGE, None)]),
            ([], []),
            ([], []),
            ([], [("answer", PAGE, None)]),
            ([("put", PAGE, 70)], []),
            ([], [("answer", PAGE, 70)]),
            ([], [("answer", PAGE, None)]),
            ([], []),
            ([], [("answer", OTHER, 1)]),
        ])
        self.assertEqual((desk.right_of(PAGE), desk.right_of(OTHER)), ("write", "none"))
        self.assertFalse(waits(desk))

    def test_it_tells_what_take_tells_for_each(self):
        letters = [("lend", PAGE, "write", 5), ("back", PAGE, "read"), ("lend", OTHER, "read", 6), ("back", 1, "none")]
        one = desk_with("none", wish=("look", OTHER))
        two = desk_with("none", wish=("look", OTHER))
        self.assertEqual(taken_by_desk(one, letters), [two.take(letter) for letter in letters])
        self.assertEqual(state(one), state(two))

    def test_the_letters_handed_in_stay_as_they_were(self):
        letters = [("lend", PAGE, "write", 5), ("back", PAGE, "read")]
        kept = list(letters)
        taken_by_desk(Desk(), letters)
        self.assertEqual(letters, kept)

    def test_two_desks_know_nothing_of_one_another(self):
        one = Desk()
        two = Desk()
        one.want(("look", OTHER))
        taken_by_desk(one, [("lend", PAGE, "write", 5)])
        self.assertEqual(state(two), state(Desk()))
        taken_by_desk(two, [("lend", PAGE, "write", 6)])
        two.want(("put", PAGE, 7))
        self.check_pair(one.take(("back", PAGE, "none")), [], [("answer", PAGE, 5)])
        self.check_pair(two.take(("back", PAGE, "none")), [], [("answer", PAGE, 7)])
        self.assertTrue(waits(one))
        self.assertFalse(waits(two))


class TestNothingHandedOutIsKept(DeskCase):
    def test_a_caller_may_change_the_lists_given_back(self):
        desk = Desk()
        for given in desk.want(("put", PAGE, 70)):
            given.append("scribble")
        for given in desk.take(("lend", PAGE, "write", 50)):
            given.append("scribble")
        for given in desk.take(("back", PAGE, "read")):
            given.append("scribble")
        desk.rest(PAGE).append("scribble")
        self.check_pair(desk.want(("look", PAGE)), [], [("ask", PAGE, "read")])
        self.check_pair(desk.take(("lend", PAGE, "read", 1)), [("look", PAGE, 1)], [])
        self.check_letters(desk.rest(PAGE), [])
        self.check_pair(desk.take(("back", PAGE, "none")), [], [("answer", PAGE, None)])


if __name__ == "__main__":
    unittest.main()
