"""A day of a shop: its deeds done one after the other, and what is told of them."""

from shelfbook.errors import Broke, NoKind, NoMany, NoOrder, NoSale, TooFew, TooMany
from shelfbook.shop import Shop


def answers(till, prices, deeds):
    shop = Shop(till, prices)
    return [answer_deed(shop, deed) for deed in deeds]


def book(till, prices, deeds):
    shop = Shop(till, prices)
    for deed in deeds:
        answer_deed(shop, deed)
    return shop.entries


def states(till, prices, deeds):
    shop = Shop(till, prices)
    told = []
    for deed in deeds:
        answer_deed(shop, deed)
        # The shop goes on changing its own lists, so each tuple has lists to itself.
        told.append((shop.till, list(shop.shelf), list(shop.owed)))
    return told


def answer_deed(shop, deed):
    try:
        return do_deed(shop, deed)
    except NoKind:
        return "no kind"
    except NoOrder:
        return "no order"
    except NoSale:
        return "no sale"
    except NoMany:
        return "no many"
    except TooMany:
        return "too many"
    except TooFew:
        return "too few"
    except Broke:
        return "broke"


def do_deed(shop, deed):
    word = deed[0]
    if word == "order":
        return shop.order(deed[1], deed[2], deed[3])
    if word == "came":
        return shop.came(deed[1], deed[2], deed[3])
    if word == "give up":
        return shop.give_up(deed[1])
    if word == "sell":
        return shop.sell(deed[1], deed[2])
    return shop.back(deed[1], deed[2])
