"""Stories: deeds done one after the other in a town, and what comes of them."""

from copydesks.errors import NoCopy, NoDesk, NoLetter, NoPage, Waiting
from copydesks.town import Town


def answer_of(town, deed):
    try:
        return town.do_deed(deed)
    except NoDesk:
        return "no desk"
    except NoPage:
        return "no page"
    except Waiting:
        return "waiting"
    except NoCopy:
        return "no copy"
    except NoLetter:
        return "no letter"


def town_after(count, numbers, deeds):
    town = Town(count, numbers)
    for deed in deeds:
        answer_of(town, deed)
    return town


def answers(count, numbers, deeds):
    town = Town(count, numbers)
    return [answer_of(town, deed) for deed in deeds]


def row_of(count, numbers, deeds):
    return town_after(count, numbers, deeds).row


def rights_after(count, numbers, deeds):
    town = Town(count, numbers)
    behind_each = []
    for deed in deeds:
        answer_of(town, deed)
        behind_each.append(town.all_rights())
    return behind_each


def left_after(count, numbers, deeds):
    town = town_after(count, numbers, deeds)
    return (town.waiting_desks(), town.roads_up, town.roads_down)
