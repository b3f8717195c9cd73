"""The letters between desks and hall, and the rights that they speak of."""

NONE = "none"
READ = "read"
WRITE = "write"


def ask_letter(page, right):
    return ("ask", page, right)


def answer_letter(page, number):
    return ("answer", page, number)


def gave_letter(page, number):
    return ("gave", page, number)


def lend_letter(page, right, number):
    return ("lend", page, right, number)


def back_letter(page, right):
    return ("back", page, right)
