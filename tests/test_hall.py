"""Points 1, 4 and 9 to 13: the hall alone."""

import unittest

from copydesks.hall import Hall, taken_by_hall

PAGE = 1
OTHER = 0
START = [30, 50, 70]
LONG = 10 ** 32 - 1
NUMBERS = [0, 1, -1, 10 ** 31, -(10 ** 31), LONG, -LONG, 10 ** 40, -(10 ** 40)]


def ask(right, page=PAGE):
    return ("ask", page, right)


def answer(number, page=PAGE):
    return ("answer", page, number)


def gave(number, page=PAGE):
    return ("gave", page, number)


def lend(desk, right, number, page=PAGE):
    return (desk, ("lend", page, right, number))


def back(desk, right, page=PAGE):
    return (desk, ("back", page, right))


def hall_after(*letters):
    """A hall to which these pairs of a desk and a letter have come."""
    hall = Hall(list(START))
    taken_by_hall(hall, list(letters))
    return hall


def hall_with_readers(*desks):
    return hall_after(*[(desk, ask("read")) for desk in desks])


def hall_with_writer(desk):
    return hall_after((desk, ask("write")))


class HallCase(unittest.TestCase):
    def check(self, sent, told):
        self.assertIs(type(sent), list)
        for pair in sent:
            self.assertIs(type(pair), tuple)
            self.assertEqual(len(pair), 2)
            self.assertIs(type(pair[0]), int)
            self.assertIs(type(pair[1]), tuple)
        self.assertEqual(sent, told)

    def check_readers(self, hall, readers, number, stranger=99):
        """The readers in order and the number, told by what a desk that is none of them brings about by asking."""
        self.check(hall.take(stranger, ask("write")), [back(desk, "none") for desk in readers]
                   or [lend(stranger, "write", number)])
        for desk in readers[:-1]:
            self.check(hall.take(desk, answer(None)), [])
        for desk in readers[-1:]:
            self.check(hall.take(desk, answer(None)), [lend(stranger, "write", number)])

    def check_writer(self, hall, writer, number, stranger=99):
        self.check(hall.take(stranger, ask("write")), [back(writer, "none")])
        self.check(hall.take(writer, answer(None)), [lend(stranger, "write", number)])


class TestNobodyHasThePage(HallCase):
    def test_it_is_lent_at_once(self):
        for right in ("read", "write"):
            for desk in (0, 1, 19):
                for page, number in enumerate(START):
                    with self.subTest(right=right, desk=desk, page=page):
                        hall = Hall(list(START))
                        self.check(hall.take(desk, ask(right, page)), [lend(desk, right, number, page)])

    def test_numbers_of_any_length_and_sign(self):
        for number in NUMBERS:
            for right in ("read", "write"):
                with self.subTest(number=number, right=right):
                    self.check(Hall([number]).take(0, ask(right, 0)), [lend(0, right, number, 0)])

    def test_there_is_no_reader_and_no_writer_at_the_beginning(self):
        self.check_readers(Hall(list(START)), [], 50)

    def test_a_read_loan_leaves_a_reader(self):
        for desk in (0, 3):
            self.check_readers(hall_with_readers(desk), [desk], 50)

    def test_a_write_loan_leaves_a_writer(self):
        for desk in (0, 3):
            self.check_writer(hall_with_writer(desk), desk, 50)


class TestReaders(HallCase):
    def test_read_is_lent_beside_other_readers(self):
        hall = hall_with_readers(2, 0)
        self.check(hall.take(1, ask("read")), [lend(1, "read", 50)])
        self.check_readers(hall, [2, 0, 1], 50)

    def test_a_reader_that_asks_for_read_again_keeps_its_place(self):
        for again in (2, 0, 1):
            with self.subTest(again=again):
                hall = hall_with_readers(2, 0, 1)
                self.check(hall.take(again, ask("read")), [lend(again, "read", 50)])
                self.check_readers(hall, [2, 0, 1], 50)

    def test_write_bids_all_readers_to_none_in_their_order(self):
        hall = hall_with_readers(2, 0, 1)
        self.check(hall.take(3, ask("write")), [back(2, "none"), back(0, "none"), back(1, "none")])
        self.check(hall.take(1, answer(None)), [])
        self.check(hall.take(2, answer(None)), [])
        self.check(hall.take(0, answer(None)), [lend(3, "write", 50)])
        self.check_writer(hall, 3, 50)

    def test_write_bids_all_readers_but_the_asking_one(self):
        for asking in (2, 0, 1):
            with self.subTest(asking=asking):
                others = [desk for desk in (2, 0, 1) if desk != asking]
                hall = hall_with_readers(2, 0, 1)
                self.check(hall.take(asking, ask("write")), [back(desk, "none") for desk in others])
                self.check(hall.take(others[0], answer(None)), [])
                self.check(hall.take(others[1], answer(None)), [lend(asking, "write", 50)])
                self.check_writer(hall, asking, 50)

    def test_the_only_reader_is_lent_write_at_once(self):
        for asking in (0, 3):
            hall = hall_with_readers(asking)
            self.check(hall.take(asking, ask("write")), [lend(asking, "write", 50)])
            self.check_writer(hall, asking, 50)

    def test_there_are_no_readers_behind_a_write_loan(self):
        hall = hall_with_readers(0, 1)
        hall.take(0, ask("write"))
        hall.take(1, answer(None))
        hall.take(0, gave(8))
        self.check_readers(hall, [], 8)

    def test_up_to_twenty_readers(self):
        order = [(7 * step + 3) % 20 for step in range(20)]
        self.check_readers(hall_with_readers(*order), order, 50)


class TestWriter(HallCase):
    def test_read_bids_the_writer_to_read(self):
        for writer in (0, 2):
            for number in NUMBERS:
                with self.subTest(writer=writer, number=number):
                    hall = hall_with_writer(writer)
                    self.check(hall.take(1, ask("read")), [back(writer, "read")])
                    self.check(hall.take(writer, answer(number)), [lend(1, "read", number)])
                    self.check_readers(hall, [writer, 1], number)

    def test_write_bids_the_writer_to_none(self):
        for writer in (0, 2):
            for number in NUMBERS:
                with self.subTest(writer=writer, number=number):
                    hall = hall_with_writer(writer)
                    self.check(hall.take(1, ask("write")), [back(writer, "none")])
                    self.check(hall.take(writer, answer(number)), [lend(1, "write", number)])
                    self.check_writer(hall, 1, number)

    def test_a_writer_that_asks_itself_is_not_bid(self):
        for writer in (0, 2):
            for right in ("read", "write"):
                with self.subTest(writer=writer, right=right):
                    hall = hall_with_writer(writer)
                    self.check(hall.take(writer, ask(right)), [lend(writer, right, 50)])
                    if right == "read":
                        # Put behind the readers as the writer, it is among them already and stands there once.
                        self.check_readers(hall, [writer], 50)
                    else:
                        self.check_writer(hall, writer, 50)

    def test_a_writer_that_went_down_to_read_may_ask_for_write_again(self):
        hall = hall_after((0, ask("write")), (1, ask("read")), (0, answer(6)))
        self.check(hall.take(0, ask("write")), [back(1, "none")])
        self.check(hall.take(1, answer(None)), [lend(0, "write", 6)])
        self.check_writer(hall, 0, 6)

    def test_the_hall_waits_for_the_answer(self):
        hall = hall_with_writer(0)
        hall.take(1, ask("read"))
        for desk in (2, 3):
            self.check(hall.take(desk, ask("read")), [])
        self.check(hall.take(4, ask("read", OTHER)), [lend(4, "read", 30, OTHER)])


class TestOneAfterTheOther(HallCase):
    def test_in_the_order_in_which_the_letters_came(self):
        hall = hall_with_writer(0)
        self.check(hall.take(3, ask("write")), [back(0, "none")])
        self.check(hall.take(1, ask("write")), [])
        self.check(hall.take(2, ask("read")), [])
        self.check(hall.take(0, answer(51)), [lend(3, "write", 51), back(3, "none")])
        self.check(hall.take(3, answer(52)), [lend(1, "write", 52), back(1, "read")])
        self.check(hall.take(1, answer(53)), [lend(2, "read", 53)])
        self.check_readers(hall, [1, 2], 53)

    def test_several_that_read_are_lent_to_in_one_go(self):
        hall = hall_with_writer(0)
        self.check(hall.take(3, ask("read")), [back(0, "read")])
        for desk in (1, 2):
            self.check(hall.take(desk, ask("read")), [])
        self.check(hall.take(0, answer(51)), [lend(3, "read", 51), lend(1, "read", 51), lend(2, "read", 51)])
        self.check_readers(hall, [0, 3, 1, 2], 51)

    def test_loans_and_then_bids_in_one_go(self):
        hall = hall_with_writer(0)
        hall.take(3, ask("read"))
        for desk, right in ((1, "read"), (2, "write"), (4, "read")):
            self.check(hall.take(desk, ask(right)), [])
        self.check(hall.take(0, answer(51)), [
            lend(3, "read", 51), lend(1, "read", 51), back(0, "none"), back(3, "none"), back(1, "none")])
        self.check(hall.take(1, answer(None)), [])
        self.check(hall.take(0, answer(None)), [])
        self.check(hall.take(3, answer(None)), [lend(2, "write", 51), back(2, "read")])
        self.check(hall.take(2, answer(54)), [lend(4, "read", 54)])
        self.check_readers(hall, [2, 4], 54)

    def test_a_reader_that_asked_for_write_while_another_is_served(self):
        hall = hall_with_readers(0, 1)
        self.check(hall.take(2, ask("write")), [back(0, "none"), back(1, "none")])
        self.check(hall.take(0, ask("write")), [])
        self.check(hall.take(1, answer(None)), [])
        self.check(hall.take(0, answer(None)), [lend(2, "write", 50), back(2, "none")])
        self.check(hall.take(2, answer(9)), [lend(0, "write", 9)])
        self.check_writer(hall, 0, 9)

    def test_many_that_ask_for_write(self):
        hall = hall_with_writer(0)
        order = [(7 * step + 3) % 20 for step in range(20) if (7 * step + 3) % 20]
        for place, desk in enumerate(order):
            self.check(hall.take(desk, ask("write")), [back(0, "none")] if place == 0 else [])
        holder = 0
        for place, desk in enumerate(order):
            behind = [back(desk, "none")] if place + 1 < len(order) else []
            self.check(hall.take(holder, answer(100 + place)), [lend(desk, "write", 100 + place)] + behind)
            holder = desk

    def test_pages_know_nothing_of_one_another(self):
        hall = hall_after((0, ask("write", 0)), (0, ask("write", 1)), (0, ask("read", 2)))
        self.check(hall.take(1, ask("write", 0)), [back(0, "none", 0)])
        self.check(hall.take(1, ask("read", 1)), [back(0, "read", 1)])
        self.check(hall.take(1, ask("write", 2)), [back(0, "none", 2)])
        self.check(hall.take(0, answer(None, 2)), [lend(1, "write", 70, 2)])
        self.check(hall.take(0, gave(31, 0)), [])
        self.check(hall.take(0, answer(51, 1)), [lend(1, "read", 51, 1)])
        self.check(hall.take(0, answer(None, 0)), [lend(1, "write", 31, 0)])


class TestNumbers(HallCase):
    def test_an_answer_with_a_number_is_the_halls_number_from_then_on(self):
        for number in NUMBERS:
            with self.subTest(number=number):
                hall = hall_after((0, ask("write")), (1, ask("read")), (0, answer(number)))
                self.check(hall.take(2, ask("read")), [lend(2, "read", number)])
                self.check(hall.take(3, ask("read", OTHER)), [lend(3, "read", 30, OTHER)])

    def test_an_answer_with_none_leaves_the_number(self):
        for number in NUMBERS:
            with self.subTest(number=number):
                hall = hall_after((0, ask("write")), (0, gave(number)), (0, ask("read")), (1, ask("write")))
                self.check(hall.take(0, answer(None)), [lend(1, "write", number)])

    def test_a_number_holds_even_while_more_answers_are_awaited(self):
        hall = hall_with_readers(0, 1)
        hall.take(2, ask("write"))
        self.check(hall.take(0, answer(8)), [])
        self.check(hall.take(1, answer(None)), [lend(2, "write", 8)])

    def test_the_last_number_holds(self):
        hall = hall_after((0, ask("write")))
        for number in NUMBERS:
            self.check(hall.take(0, gave(number)), [])
            self.check(hall.take(0, ask("write")), [lend(0, "write", number)])


class TestGave(HallCase):
    def test_the_writers_own_leaves_no_writer(self):
        for writer in (0, 2):
            for right in ("read", "write"):
                for number in NUMBERS:
                    with self.subTest(writer=writer, right=right, number=number):
                        hall = hall_with_writer(writer)
                        self.check(hall.take(writer, gave(number)), [])
                        self.check(hall.take(1, ask(right)), [lend(1, right, number)])
                        if right == "read":
                            self.check_readers(hall, [1], number)
                        else:
                            self.check_writer(hall, 1, number)

    def test_one_that_is_the_writer_no_more_leaves_the_writer(self):
        for writer, other in ((0, 1), (1, 0)):
            with self.subTest(writer=writer):
                hall = hall_after((other, ask("write")), (writer, ask("write")), (other, answer(6)))
                self.check(hall.take(other, gave(7)), [])
                self.check_writer(hall, writer, 7)

    def test_one_that_reads_by_now_leaves_the_readers(self):
        hall = hall_after((0, ask("write")), (1, ask("read")), (0, answer(6)))
        self.check(hall.take(0, gave(7)), [])
        self.check_readers(hall, [0, 1], 7)

    def test_one_that_comes_while_its_answer_is_awaited(self):
        for writer in (0, 2):
            for right, bid in (("read", "read"), ("write", "none")):
                with self.subTest(writer=writer, right=right):
                    hall = hall_with_writer(writer)
                    self.check(hall.take(1, ask(right)), [back(writer, bid)])
                    self.check(hall.take(writer, gave(61)), [])
                    self.check(hall.take(writer, answer(None)), [lend(1, right, 61)])
                    if right == "read":
                        # The desk gave the page up, so it isn't put behind the readers.
                        self.check_readers(hall, [1], 61)
                    else:
                        self.check_writer(hall, 1, 61)

    def test_one_that_comes_while_others_wait_to_be_served(self):
        hall = hall_with_writer(0)
        hall.take(1, ask("read"))
        self.check(hall.take(0, gave(61)), [])
        self.check(hall.take(0, ask("read")), [])
        self.check(hall.take(2, ask("write")), [])
        self.check(hall.take(0, answer(None)),
                   [lend(1, "read", 61), lend(0, "read", 61), back(1, "none"), back(0, "none")])

    def test_one_from_the_writer_that_then_asks_again(self):
        hall = hall_with_writer(0)
        self.check(hall.take(1, ask("write")), [back(0, "none")])
        self.check(hall.take(0, gave(61)), [])
        self.check(hall.take(0, ask("write")), [])
        self.check(hall.take(0, answer(None)), [lend(1, "write", 61), back(1, "none")])
        self.check(hall.take(1, answer(62)), [lend(0, "write", 62)])

    def test_one_for_another_page(self):
        hall = hall_after((0, ask("write")), (0, ask("write", OTHER)))
        self.check(hall.take(0, gave(5, OTHER)), [])
        self.check_writer(hall, 0, 50)


class TestTakenByHall(HallCase):
    LETTERS = [(0, ask("write")), (1, ask("read")), (2, ask("write")), (2, ask("read", OTHER)), (0, gave(60)),
               (0, answer(None)), (1, answer(None)), (2, gave(61)), (1, ask("read"))]
    TOLD = [[lend(0, "write", 50)], [back(0, "read")], [], [lend(2, "read", 30, OTHER)], [],
            [lend(1, "read", 60), back(1, "none")], [lend(2, "write", 60)], [], [lend(1, "read", 61)]]

    def test_no_letter(self):
        hall = hall_with_readers(0)
        self.assertEqual(taken_by_hall(hall, []), [])
        self.check_readers(hall, [0], 50)

    def test_one_letter(self):
        told = taken_by_hall(Hall(list(START)), [(4, ask("read"))])
        self.assertIs(type(told), list)
        self.assertEqual(len(told), 1)
        self.check(told[0], [lend(4, "read", 50)])

    def test_several_letters_come_one_after_the_other(self):
        told = taken_by_hall(Hall(list(START)), list(self.LETTERS))
        self.assertIs(type(told), list)
        self.assertEqual(len(told), len(self.TOLD))
        for sent, wanted in zip(told, self.TOLD):
            self.check(sent, wanted)

    def test_it_tells_what_take_tells_for_each(self):
        hall = Hall(list(START))
        self.assertEqual([hall.take(desk, letter) for desk, letter in self.LETTERS], self.TOLD)

    def test_in_two_goes_as_in_one(self):
        for cut in range(len(self.LETTERS) + 1):
            hall = Hall(list(START))
            told = taken_by_hall(hall, self.LETTERS[:cut]) + taken_by_hall(hall, self.LETTERS[cut:])
            self.assertEqual(told, self.TOLD)

    def test_the_letters_handed_in_stay_as_they_were(self):
        letters = list(self.LETTERS)
        taken_by_hall(Hall(list(START)), letters)
        self.assertEqual(letters, self.LETTERS)


class TestWhatIsHandedIn(HallCase):
    def test_the_list_of_numbers_is_not_changed(self):
        numbers = list(START)
        hall = Hall(numbers)
        taken_by_hall(hall, TestTakenByHall.LETTERS)
        hall.take(5, ask("write", 2))
        hall.take(5, gave(-1, 2))
        self.assertEqual(numbers, START)

    def test_a_later_change_of_the_list_does_not_reach_the_hall(self):
        numbers = list(START)
        hall = Hall(numbers)
        numbers[PAGE] = 1000
        numbers.append(7)
        self.check(hall.take(0, ask("read")), [lend(0, "read", 50)])
        numbers.clear()
        self.check(hall.take(0, ask("write", 2)), [lend(0, "write", 70, 2)])

    def test_two_halls_know_nothing_of_one_another(self):
        numbers = list(START)
        one = Hall(numbers)
        two = Hall(numbers)
        taken_by_hall(one, [(0, ask("write")), (0, gave(5)), (1, ask("write"))])
        self.check(two.take(2, ask("read")), [lend(2, "read", 50)])
        self.check(two.take(3, ask("write")), [back(2, "none")])
        self.check_writer(one, 1, 5)
        self.check(two.take(2, answer(None)), [lend(3, "write", 50)])

    def test_a_caller_may_change_the_lists_given_back(self):
        hall = hall_with_readers(0, 1)
        hall.take(2, ask("write")).clear()
        hall.take(3, ask("read")).append("scribble")
        hall.take(0, answer(None)).append("scribble")
        self.check(hall.take(1, answer(None)), [lend(2, "write", 50), back(2, "read")])
        hall.take(2, gave(4)).append("scribble")
        self.check(hall.take(2, answer(None)), [lend(3, "read", 4)])


if __name__ == "__main__":
    unittest.main()
