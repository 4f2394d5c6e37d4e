"""A shop: its till, its shelf, its orders, its sales and its book."""

from shelfbook.deals import check_pieces
from shelfbook.errors import Broke, NoKind, NoMany, NoOrder, NoSale, TooFew


class Order:

    def __init__(self, kind, pieces, price):
        self.kind = kind
        self.price = price
        self.owed = pieces


class Sale:

    def __init__(self, kind, pieces):
        self.kind = kind
        self.out = pieces


# A refused deed changes nothing: in each deed, all checks stand ahead of the first change.
class Shop:

    def __init__(self, till, prices):
        self.till = till
        self.prices = list(prices)
        self.shelf = [0] * len(prices)
        # The orders tell this too, but walking them all behind each deed would make long days slow.
        self.owed = [0] * len(prices)
        # Orders and sales that are done with stay here, since their places are their numbers.
        self.orders = []
        self.sales = []
        self.entries = []

    def order(self, kind, pieces, price):
        self.check_kind(kind)
        if pieces < 1 or price < 0:
            raise NoMany("no such number of pieces, or no such price")
        number = len(self.orders)
        self.orders.append(Order(kind, pieces, price))
        self.owed[kind] += pieces
        self.entries.append(("ordered", number, pieces, 0))
        return number

    def came(self, order, pieces, bad):
        ordered = self.find_order(order)
        check_pieces(ordered.owed, pieces, bad)
        good = pieces - bad
        coins = good * ordered.price
        self.check_till(coins)
        self.till -= coins
        self.shelf[ordered.kind] += good
        self.strike_off(ordered, good)
        self.entries.append(("came", order, good, coins))
        return good

    def give_up(self, order):
        ordered = self.find_order(order)
        pieces = ordered.owed
        self.strike_off(ordered, pieces)
        self.entries.append(("given up", order, pieces, 0))
        return pieces

    def sell(self, kind, pieces):
        self.check_kind(kind)
        if pieces < 1:
            raise NoMany("no such number of pieces")
        if pieces > self.shelf[kind]:
            raise TooFew("fewer pieces on the shelf than are to be sold")
        number = len(self.sales)
        coins = pieces * self.prices[kind]
        self.sales.append(Sale(kind, pieces))
        self.shelf[kind] -= pieces
        self.till += coins
        self.entries.append(("sold", number, pieces, coins))
        return number

    def back(self, sale, pieces):
        sold = self.find_sale(sale)
        check_pieces(sold.out, pieces, 0)
        coins = pieces * self.prices[sold.kind]
        self.check_till(coins)
        self.till -= coins
        self.shelf[sold.kind] += pieces
        sold.out -= pieces
        self.entries.append(("back", sale, pieces, coins))
        return coins

    # Python counts places below nought from a list's end, so each number is checked from both sides.
    def check_kind(self, kind):
        if kind < 0 or kind >= len(self.prices):
            raise NoKind("no such kind of goods")

    def find_order(self, order):
        if order < 0 or order >= len(self.orders):
            raise NoOrder("no order has that number")
        ordered = self.orders[order]
        if ordered.owed == 0:
            raise NoOrder("nothing is owed of that order any more")
        return ordered

    def find_sale(self, sale):
        if sale < 0 or sale >= len(self.sales):
            raise NoSale("no sale has that number")
        return self.sales[sale]

    def check_till(self, coins):
        if coins > self.till:
            raise Broke("fewer coins in the till than are to be paid")

    def strike_off(self, ordered, pieces):
        ordered.owed -= pieces
        self.owed[ordered.kind] -= pieces
