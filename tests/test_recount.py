"""Points 3 to 11 over many days: the book counted again, and each day told a second way.

Here nothing is kept but the list of the deeds that were not refused; every number is
counted anew from that list each time it is asked for.
"""

import itertools
import random
import unittest

from shelfbook.day import answers, book, states

# Ten deeds with each other's edges close by, for every day of four of them.
SHORT_DEEDS = (
    ("order", 0, 2, 3),
    ("order", 1, 1, 0),
    ("came", 0, 1, 0),
    ("came", 0, 2, 1),
    ("came", 1, 1, 0),
    ("give up", 0),
    ("sell", 0, 1),
    ("sell", 1, 1),
    ("back", 0, 1),
    ("back", 1, 1),
)


def kinds_of(done, word):
    return [deed[1] for deed in done if deed[0] == word]


def count_owed(done, order):
    pieces = [deed[2] for deed in done if deed[0] == "order"][order]
    if ("give up", order) in done:
        return 0
    return pieces - sum(deed[2] - deed[3] for deed in done if deed[:2] == ("came", order))


def count_out(done, sale):
    pieces = [deed[2] for deed in done if deed[0] == "sell"][sale]
    return pieces - sum(deed[2] for deed in done if deed[:2] == ("back", sale))


def count_coins(prices, done, deed):
    if deed[0] == "came":
        price = [other[3] for other in done if other[0] == "order"][deed[1]]
        return -(deed[2] - deed[3]) * price
    if deed[0] == "sell":
        return deed[2] * prices[deed[1]]
    if deed[0] == "back":
        return -deed[2] * prices[kinds_of(done, "sell")[deed[1]]]
    return 0


def count_till(till, prices, done):
    return till + sum(count_coins(prices, done, deed) for deed in done)


def count_shelf(done, kind):
    orders = kinds_of(done, "order")
    sales = kinds_of(done, "sell")
    pieces = 0
    for deed in done:
        if deed[0] == "came" and orders[deed[1]] == kind:
            pieces += deed[2] - deed[3]
        if deed[0] == "sell" and deed[1] == kind:
            pieces -= deed[2]
        if deed[0] == "back" and sales[deed[1]] == kind:
            pieces += deed[2]
    return pieces


def reasons(till, prices, done, deed):
    """Each refusal of point 9 that holds, in its order; a later one is asked only where it makes sense."""
    word, first, rest = deed[0], deed[1], deed[2:]
    orders = range(len(kinds_of(done, "order")))
    sales = range(len(kinds_of(done, "sell")))
    if word in ("order", "sell") and first not in range(len(prices)):
        yield "no kind"
    if word in ("came", "give up") and (first not in orders or count_owed(done, first) < 1):
        yield "no order"
    if word == "back" and first not in sales:
        yield "no sale"
    if rest and rest[0] < 1:
        yield "no many"
    if word in ("order", "came") and rest[1] < 0:
        yield "no many"
    if word == "came" and rest[1] > rest[0]:
        yield "no many"
    if word == "came" and rest[0] > count_owed(done, first):
        yield "too many"
    if word == "back" and rest[0] > count_out(done, first):
        yield "too many"
    if word == "sell" and rest[0] > count_shelf(done, first):
        yield "too few"
    if word in ("came", "back") and count_till(till, prices, done) + count_coins(prices, done, deed) < 0:
        yield "broke"


def first_reason(till, prices, done, deed):
    return next(reasons(till, prices, done, deed), None)


def count_answer(prices, done, deed):
    if deed[0] == "came":
        return deed[2] - deed[3]
    if deed[0] == "give up":
        return count_owed(done, deed[1])
    if deed[0] == "back":
        return -count_coins(prices, done, deed)
    return len(kinds_of(done, deed[0]))


def make_entry(prices, done, deed, answer):
    if deed[0] == "order":
        return ("ordered", answer, deed[2], 0)
    if deed[0] == "came":
        return ("came", deed[1], answer, abs(count_coins(prices, done, deed)))
    if deed[0] == "give up":
        return ("given up", deed[1], answer, 0)
    if deed[0] == "sell":
        return ("sold", answer, deed[2], count_coins(prices, done, deed))
    return ("back", deed[1], deed[2], answer)


def count_state(till, prices, done):
    shelf = [count_shelf(done, kind) for kind in range(len(prices))]
    owed = [0] * len(prices)
    for order, kind in enumerate(kinds_of(done, "order")):
        owed[kind] += count_owed(done, order)
    return (count_till(till, prices, done), shelf, owed)


def tell_day(till, prices, deeds):
    done, given, entries, told = [], [], [], []
    for deed in deeds:
        refusal = first_reason(till, prices, done, deed)
        if refusal is None:
            answer = count_answer(prices, done, deed)
            entries.append(make_entry(prices, done, deed, answer))
            done.append(deed)
            given.append(answer)
        else:
            given.append(refusal)
        told.append(count_state(till, prices, done))
    return given, entries, told


# Mostly a number that fits, so that a day gets somewhere, and now and then one beside it.
def make_number(chance, fitting, numbered):
    if fitting and chance.random() < 0.8:
        return chance.choice(fitting)
    return chance.randint(-1, numbered)


def make_deed(chance, kinds, done):
    orders, sales = len(kinds_of(done, "order")), len(kinds_of(done, "sell"))
    kind = make_number(chance, range(kinds), kinds)
    order = make_number(chance, [number for number in range(orders) if count_owed(done, number) > 0], orders)
    sale = make_number(chance, [number for number in range(sales) if count_out(done, number) > 0], sales)
    pieces = chance.randint(0, 6)
    return chance.choice((
        ("order", kind, pieces, chance.randint(-1, 5)),
        ("order", kind, pieces, 0),
        ("came", order, pieces, 0),
        ("came", order, pieces, chance.randint(-1, 3)),
        ("came", order, 1, chance.randint(0, 1)),
        ("give up", order),
        ("sell", kind, chance.randint(0, 3)),
        ("sell", kind, 1),
        ("back", sale, chance.randint(0, 3)),
        ("back", sale, 1),
    ))


def make_day(chance, length):
    prices = [chance.choice((0, 1, 2, 7)) for _ in range(chance.randint(1, 3))]
    till = chance.choice((0, 3, 9, 20, 60))
    deeds, done = [], []
    for _ in range(length):
        deed = make_deed(chance, len(prices), done)
        deeds.append(deed)
        if first_reason(till, prices, done, deed) is None:
            done.append(deed)
    return till, prices, deeds


def count_from_book(till, order_kinds, sale_kinds, kinds, entries):
    """Point 11, from the book alone and the kinds of the orders and sales that it names."""
    shelf, owed = [0] * kinds, [0] * kinds
    for word, number, pieces, coins in entries:
        kind = sale_kinds[number] if word in ("sold", "back") else order_kinds[number]
        if word in ("came", "back"):
            shelf[kind] += pieces
            till -= coins
        if word == "sold":
            shelf[kind] -= pieces
            till += coins
        if word == "ordered":
            owed[kind] += pieces
        if word in ("came", "given up"):
            owed[kind] -= pieces
    return (till, shelf, owed)


class RecountTest(unittest.TestCase):

    def assert_day(self, till, prices, deeds):
        given, entries, told = tell_day(till, prices, deeds)
        found = (answers(till, prices, deeds), book(till, prices, deeds), states(till, prices, deeds))
        self.assertEqual(found, (given, entries, told), (till, prices, deeds))

    def made_days(self, seed, many, length):
        chance = random.Random(seed)
        return [make_day(chance, length) for _ in range(many)]

    def test_every_day_of_four_deeds(self):
        for deeds in itertools.product(SHORT_DEEDS, repeat=4):
            self.assert_day(4, [2, 5], list(deeds))

    def test_many_made_days(self):
        seen = set()
        for till, prices, deeds in self.made_days(1, 300, 60):
            self.assert_day(till, prices, deeds)
            for deed, answer in zip(deeds, answers(till, prices, deeds)):
                seen.add((deed[0], answer if isinstance(answer, str) else "taken"))
        # The made days are of use only where they reach each deed with each of its refusals.
        self.assertEqual(seen, {
            ("order", "taken"), ("order", "no kind"), ("order", "no many"),
            ("came", "taken"), ("came", "no order"), ("came", "no many"), ("came", "too many"), ("came", "broke"),
            ("give up", "taken"), ("give up", "no order"),
            ("sell", "taken"), ("sell", "no kind"), ("sell", "no many"), ("sell", "too few"),
            ("back", "taken"), ("back", "no sale"), ("back", "no many"), ("back", "too many"), ("back", "broke"),
        })

    def test_the_book_comes_to_the_till_the_shelf_and_the_owed_pieces(self):
        for till, prices, deeds in self.made_days(2, 200, 40):
            given = answers(till, prices, deeds)
            done = [deed for deed, answer in zip(deeds, given) if not isinstance(answer, str)]
            order_kinds, sale_kinds = kinds_of(done, "order"), kinds_of(done, "sell")
            for length, state in enumerate(states(till, prices, deeds), start=1):
                entries = book(till, prices, deeds[:length])
                again = count_from_book(till, order_kinds, sale_kinds, len(prices), entries)
                self.assertEqual(again, state, (till, prices, deeds[:length]))

    def test_one_entry_for_each_deed_that_is_not_refused(self):
        words = {"order": "ordered", "came": "came", "give up": "given up", "sell": "sold", "back": "back"}
        for till, prices, deeds in self.made_days(3, 200, 40):
            given = answers(till, prices, deeds)
            self.assertEqual(len(given), len(deeds))
            self.assertEqual(len(states(till, prices, deeds)), len(deeds))
            taken = [words[deed[0]] for deed, answer in zip(deeds, given) if not isinstance(answer, str)]
            self.assertEqual([entry[0] for entry in book(till, prices, deeds)], taken)

    def test_till_shelf_and_owed_pieces_never_fall_below_nought(self):
        for till, prices, deeds in self.made_days(4, 200, 40):
            for coins, shelf, owed in states(till, prices, deeds):
                self.assertGreaterEqual(min([coins] + shelf + owed), 0)

    def test_a_day_without_its_refused_deeds_is_the_same_day(self):
        for till, prices, deeds in self.made_days(5, 200, 40):
            given = answers(till, prices, deeds)
            taken = [place for place, answer in enumerate(given) if not isinstance(answer, str)]
            done = [deeds[place] for place in taken]
            told = states(till, prices, deeds)
            self.assertEqual(answers(till, prices, done), [given[place] for place in taken])
            self.assertEqual(states(till, prices, done), [told[place] for place in taken])
            self.assertEqual(book(till, prices, done), book(till, prices, deeds))


if __name__ == "__main__":
    unittest.main()
