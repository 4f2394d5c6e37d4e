"""Points 1 to 9, for Shop(till, prices) and its methods."""

import inspect
import unittest

from shelfbook.errors import (
    Broke, NoKind, NoMany, NoOrder, NoSale, ShopError, TooFew, TooMany)
from shelfbook.shop import Shop

# The largest whole number of sixty-one figures.
LARGE = 10 ** 61 - 1


class ShopCase(unittest.TestCase):

    def assert_refused(self, refusal, deed, *arguments):
        with self.subTest(deed=deed.__name__, arguments=arguments):
            with self.assertRaises(ShopError) as taken:
                deed(*arguments)
            self.assertIs(type(taken.exception), refusal)

    # The till is told by what can just be paid out of it: one piece at that price, but not at one coin more.
    def assert_till(self, shop, coins):
        dear = shop.order(0, 1, coins + 1)
        self.assert_refused(Broke, shop.came, dear, 1, 0)
        shop.give_up(dear)
        fitting = shop.order(0, 1, coins)
        self.assertEqual(shop.came(fitting, 1, 0), 1)

    def assert_shelf(self, shop, kind, pieces):
        self.assert_refused(TooFew, shop.sell, kind, pieces + 1)
        if pieces > 0:
            self.assertIsInstance(shop.sell(kind, pieces), int)
            self.assert_refused(TooFew, shop.sell, kind, 1)

    def assert_owed(self, shop, order, pieces):
        self.assert_refused(TooMany, shop.came, order, pieces + 1, pieces + 1)
        self.assertEqual(shop.give_up(order), pieces)

    def assert_out(self, shop, sale, pieces):
        self.assert_refused(TooMany, shop.back, sale, pieces + 1)
        if pieces > 0:
            self.assertIsInstance(shop.back(sale, pieces), int)
            self.assert_refused(TooMany, shop.back, sale, 1)


class InterfaceTest(ShopCase):

    def test_names_of_the_arguments(self):
        names = {
            Shop: ["till", "prices"],
            Shop.order: ["self", "kind", "pieces", "price"],
            Shop.came: ["self", "order", "pieces", "bad"],
            Shop.give_up: ["self", "order"],
            Shop.sell: ["self", "kind", "pieces"],
            Shop.back: ["self", "sale", "pieces"],
        }
        for called, arguments in names.items():
            with self.subTest(called=called):
                self.assertEqual(list(inspect.signature(called).parameters), arguments)

    def test_arguments_by_name(self):
        shop = Shop(prices=[5], till=20)
        self.assertEqual(shop.order(price=2, pieces=6, kind=0), 0)
        self.assertEqual(shop.came(bad=1, pieces=4, order=0), 3)
        self.assertEqual(shop.give_up(order=0), 3)
        self.assertEqual(shop.sell(pieces=2, kind=0), 0)
        self.assertEqual(shop.back(pieces=1, sale=0), 5)


class BeginningTest(ShopCase):

    def test_the_shelf_is_empty(self):
        for kind in (0, 1, 2):
            self.assert_refused(TooFew, Shop(100, [1, 2, 3]).sell, kind, 1)

    def test_nothing_was_ordered_or_sold(self):
        shop = Shop(100, [1, 2, 3])
        self.assert_refused(NoOrder, shop.came, 0, 1, 0)
        self.assert_refused(NoOrder, shop.give_up, 0)
        self.assert_refused(NoSale, shop.back, 0, 1)

    def test_the_till_is_as_handed_in(self):
        for coins in (0, 1, 100, LARGE):
            self.assert_till(Shop(coins, [7]), coins)

    def test_a_shop_without_kinds(self):
        shop = Shop(100, [])
        self.assert_refused(NoKind, shop.order, 0, 1, 1)
        self.assert_refused(NoKind, shop.sell, 0, 1)
        self.assert_refused(NoKind, shop.order, -1, 1, 1)
        self.assert_refused(NoKind, shop.sell, -1, 1)

    def test_prices_are_not_changed(self):
        prices = [4, 0, 9]
        shop = Shop(100, prices)
        for kind in (0, 1, 2):
            shop.came(shop.order(kind, 5, 2), 5, 1)
            shop.back(shop.sell(kind, 3), 2)
            shop.give_up(kind)
        self.assertEqual(prices, [4, 0, 9])

    def test_prices_changed_behind_the_making(self):
        prices = [4, 6]
        shop = Shop(100, prices)
        prices[0] = 50
        prices.append(1)
        self.assert_refused(NoKind, shop.order, 2, 1, 1)
        self.assert_refused(NoKind, shop.sell, 2, 1)
        shop.came(shop.order(0, 5, 0), 5, 0)
        self.assertEqual(shop.back(shop.sell(0, 3), 1), 4)
        prices[0] = 70
        self.assertEqual(shop.back(0, 1), 4)
        prices.clear()
        self.assertEqual(shop.order(1, 2, 0), 1)
        self.assertEqual(shop.came(1, 2, 0), 2)
        self.assertEqual(shop.sell(1, 2), 1)
        self.assertEqual(shop.back(1, 2), 12)
        self.assert_till(shop, 104)

    def test_two_shops_side_by_side(self):
        prices = [5, 8]
        first = Shop(10, prices)
        second = Shop(30, prices)
        self.assertEqual(first.order(0, 4, 2), 0)
        self.assert_refused(NoOrder, second.came, 0, 1, 0)
        self.assertEqual(first.came(0, 3, 0), 3)
        self.assert_refused(TooFew, second.sell, 0, 1)
        self.assertEqual(first.sell(0, 2), 0)
        self.assert_refused(NoSale, second.back, 0, 1)
        self.assertEqual(second.order(1, 9, 3), 0)
        self.assertEqual(second.came(0, 9, 0), 9)
        self.assertEqual(second.sell(1, 4), 0)
        self.assertEqual(second.back(0, 3), 24)
        self.assertEqual(first.back(0, 1), 5)
        self.assert_refused(TooFew, first.sell, 1, 1)
        self.assert_till(first, 9)
        self.assert_till(second, 11)


class OrderTest(ShopCase):

    def test_orders_are_numbered_from_nought(self):
        shop = Shop(0, [3, 4])
        numbers = [shop.order(kind, 2, 5) for kind in (0, 1, 1, 0)]
        self.assertEqual(numbers, [0, 1, 2, 3])

    def test_an_order_costs_nothing_by_itself(self):
        shop = Shop(7, [3])
        self.assertEqual(shop.order(0, LARGE, LARGE), 0)
        self.assert_till(shop, 7)

    def test_all_pieces_are_owed(self):
        shop = Shop(7, [3, 3])
        shop.order(0, 6, 1)
        shop.order(1, 1, 1)
        self.assert_owed(shop, 0, 6)
        self.assert_owed(shop, 1, 1)

    def test_ordered_pieces_are_not_on_the_shelf(self):
        shop = Shop(7, [3])
        shop.order(0, 6, 1)
        self.assert_shelf(shop, 0, 0)

    def test_edges_of_kind(self):
        shop = Shop(7, [3, 3, 3])
        for kind in (-1, -2, -3, -4, 3, 4, LARGE, -LARGE):
            self.assert_refused(NoKind, shop.order, kind, 1, 1)
        self.assertEqual(shop.order(0, 1, 1), 0)
        self.assertEqual(shop.order(2, 1, 1), 1)

    def test_edges_of_pieces(self):
        shop = Shop(7, [3])
        for pieces in (0, -1, -LARGE):
            self.assert_refused(NoMany, shop.order, 0, pieces, 1)
        self.assertEqual(shop.order(0, 1, 1), 0)

    def test_edges_of_price(self):
        shop = Shop(0, [3])
        for price in (-1, -5, -LARGE):
            self.assert_refused(NoMany, shop.order, 0, 1, price)
        self.assertEqual(shop.order(0, 4, 0), 0)
        self.assertEqual(shop.came(0, 4, 0), 4)
        self.assert_till(shop, 0)

    def test_no_kind_goes_ahead_of_no_many(self):
        shop = Shop(7, [3])
        for kind in (-1, 1):
            self.assert_refused(NoKind, shop.order, kind, 0, 1)
            self.assert_refused(NoKind, shop.order, kind, 1, -1)
            self.assert_refused(NoKind, shop.order, kind, -1, -1)

    def test_a_refused_order_has_no_number(self):
        shop = Shop(7, [3])
        self.assert_refused(NoKind, shop.order, 1, 1, 1)
        self.assert_refused(NoMany, shop.order, 0, 0, 1)
        self.assert_refused(NoOrder, shop.give_up, 0)
        self.assertEqual(shop.order(0, 1, 1), 0)
        self.assert_refused(NoMany, shop.order, 0, 1, -1)
        self.assertEqual(shop.order(0, 1, 1), 1)


class CameTest(ShopCase):

    def shop_with_five_owed(self):
        shop = Shop(100, [3])
        shop.order(0, 5, 1)
        return shop

    def test_good_pieces_come_on_the_shelf_and_are_paid_for(self):
        shop = Shop(100, [3, 3])
        shop.order(1, 10, 7)
        self.assertEqual(shop.came(0, 4, 0), 4)
        self.assert_shelf(shop, 0, 0)
        self.assert_owed(shop, 0, 6)
        self.assert_till(shop, 100 - 28)
        self.assert_shelf(shop, 1, 4)

    def test_bad_pieces_are_not_paid_for_and_are_still_owed(self):
        shop = Shop(100, [3])
        shop.order(0, 10, 7)
        self.assertEqual(shop.came(0, 6, 4), 2)
        self.assert_shelf(shop, 0, 2)
        self.assert_owed(shop, 0, 8)
        # Two pieces were sold, at three coins each, to see the shelf.
        self.assert_till(shop, 100 - 14 + 6)

    def test_all_pieces_are_bad(self):
        shop = Shop(0, [3])
        shop.order(0, 3, 7)
        self.assertEqual(shop.came(0, 3, 3), 0)
        self.assertEqual(shop.came(0, 1, 1), 0)
        self.assert_shelf(shop, 0, 0)
        self.assert_owed(shop, 0, 3)
        self.assert_till(shop, 0)

    def test_an_order_comes_in_parts(self):
        shop = Shop(100, [3])
        shop.order(0, 10, 7)
        self.assertEqual(shop.came(0, 4, 1), 3)
        self.assertEqual(shop.came(0, 7, 2), 5)
        self.assert_refused(TooMany, shop.came, 0, 3, 0)
        self.assertEqual(shop.came(0, 2, 0), 2)
        self.assert_refused(NoOrder, shop.came, 0, 1, 0)
        self.assert_shelf(shop, 0, 10)
        # Ten pieces were sold, at three coins each, to see the shelf.
        self.assert_till(shop, 100 - 70 + 30)

    def test_orders_of_one_kind_are_kept_apart(self):
        shop = Shop(100, [3])
        shop.order(0, 4, 5)
        shop.order(0, 6, 2)
        self.assertEqual(shop.came(1, 6, 1), 5)
        self.assertEqual(shop.came(0, 2, 0), 2)
        self.assert_owed(shop, 0, 2)
        self.assert_owed(shop, 1, 1)
        self.assert_shelf(shop, 0, 7)
        # Seven pieces were sold, at three coins each, to see the shelf.
        self.assert_till(shop, 100 - 20 + 21)

    def test_edges_of_order(self):
        shop = Shop(100, [3])
        for number in (0, 1, 2):
            self.assertEqual(shop.order(0, 5, 1), number)
        for number in (-1, -2, -3, -4, 3, 4, LARGE, -LARGE):
            self.assert_refused(NoOrder, shop.came, number, 1, 0)
        self.assertEqual(shop.came(0, 1, 0), 1)
        self.assertEqual(shop.came(2, 1, 0), 1)

    def test_an_order_that_has_wholly_come_is_not_open(self):
        shop = Shop(100, [3])
        shop.order(0, 5, 1)
        shop.came(0, 5, 0)
        self.assert_refused(NoOrder, shop.came, 0, 1, 0)
        self.assert_refused(NoOrder, shop.came, 0, 1, 1)

    def test_an_order_that_was_given_up_is_not_open(self):
        shop = Shop(100, [3])
        shop.order(0, 5, 1)
        shop.came(0, 2, 0)
        shop.give_up(0)
        self.assert_refused(NoOrder, shop.came, 0, 1, 0)
        self.assert_refused(NoOrder, shop.came, 0, 3, 3)

    def test_edges_of_pieces(self):
        for pieces in (0, -1, -LARGE):
            self.assert_refused(NoMany, self.shop_with_five_owed().came, 0, pieces, 0)
        for pieces in (1, 4, 5):
            self.assertEqual(self.shop_with_five_owed().came(0, pieces, 0), pieces)
        for pieces in (6, 7, LARGE):
            self.assert_refused(TooMany, self.shop_with_five_owed().came, 0, pieces, 0)

    def test_edges_of_bad(self):
        for bad in (-1, -LARGE, 4, 5, LARGE):
            self.assert_refused(NoMany, self.shop_with_five_owed().came, 0, 3, bad)
        for bad in (0, 1, 2, 3):
            self.assertEqual(self.shop_with_five_owed().came(0, 3, bad), 3 - bad)

    def test_bad_pieces_count_against_what_is_owed(self):
        shop = Shop(100, [3])
        shop.order(0, 5, 1)
        self.assert_refused(TooMany, shop.came, 0, 6, 1)
        self.assert_refused(TooMany, shop.came, 0, 6, 6)

    def test_edges_of_the_till(self):
        for coins, taken in ((20, True), (19, False), (21, True)):
            shop = Shop(coins, [3])
            shop.order(0, 8, 5)
            if taken:
                self.assertEqual(shop.came(0, 6, 2), 4)
                self.assert_till(shop, coins - 20)
            else:
                self.assert_refused(Broke, shop.came, 0, 6, 2)

    def test_an_empty_till_pays_nothing(self):
        shop = Shop(0, [3])
        shop.order(0, 5, 1)
        self.assert_refused(Broke, shop.came, 0, 1, 0)
        self.assertEqual(shop.came(0, 1, 1), 0)
        shop.order(0, 5, 0)
        self.assertEqual(shop.came(1, 5, 0), 5)

    def test_order_of_the_refusals(self):
        shop = Shop(0, [3])
        shop.order(0, 5, 1)
        for number in (-1, 1):
            for pieces, bad in ((0, 0), (-1, 0), (1, -1), (1, 2), (6, 0), (1, 0), (6, 7)):
                self.assert_refused(NoOrder, shop.came, number, pieces, bad)
        for pieces, bad in ((6, -1), (6, 7), (0, 0), (5, -1)):
            self.assert_refused(NoMany, shop.came, 0, pieces, bad)
        self.assert_refused(TooMany, shop.came, 0, 6, 0)
        self.assert_refused(Broke, shop.came, 0, 5, 0)
        shop.give_up(0)
        for pieces, bad in ((0, 0), (1, 2), (1, -1), (6, 0), (1, 0)):
            self.assert_refused(NoOrder, shop.came, 0, pieces, bad)

    def test_a_refused_delivery_changes_nothing(self):
        shop = Shop(4, [3])
        shop.order(0, 5, 1)
        self.assert_refused(NoOrder, shop.came, 1, 1, 0)
        self.assert_refused(NoMany, shop.came, 0, 2, 3)
        self.assert_refused(TooMany, shop.came, 0, 6, 5)
        self.assert_refused(Broke, shop.came, 0, 5, 0)
        self.assert_shelf(shop, 0, 0)
        self.assert_owed(shop, 0, 5)
        self.assert_till(shop, 4)


class GiveUpTest(ShopCase):

    def test_it_is_answered_with_what_was_owed(self):
        shop = Shop(100, [3])
        for number in (0, 1, 2):
            shop.order(0, 9, 1)
        shop.came(1, 4, 0)
        shop.came(2, 4, 3)
        self.assertEqual([shop.give_up(number) for number in (0, 1, 2)], [9, 5, 8])

    def test_it_leaves_the_shelf_and_the_till(self):
        shop = Shop(100, [3])
        shop.order(0, 9, 2)
        shop.came(0, 4, 0)
        self.assertEqual(shop.give_up(0), 5)
        self.assert_shelf(shop, 0, 4)
        # Four pieces were sold, at three coins each, to see the shelf.
        self.assert_till(shop, 100 - 8 + 12)

    def test_an_order_is_given_up_once(self):
        shop = Shop(100, [3])
        shop.order(0, 9, 2)
        shop.give_up(0)
        self.assert_refused(NoOrder, shop.give_up, 0)
        self.assertEqual(shop.order(0, 9, 2), 1)

    def test_an_order_that_has_wholly_come_is_not_open(self):
        shop = Shop(100, [3])
        shop.order(0, 9, 2)
        shop.came(0, 9, 0)
        self.assert_refused(NoOrder, shop.give_up, 0)

    def test_edges_of_order(self):
        shop = Shop(100, [3])
        for number in (0, 1, 2):
            shop.order(0, 5 + number, 1)
        for number in (-1, -2, -3, -4, 3, 4, LARGE, -LARGE):
            self.assert_refused(NoOrder, shop.give_up, number)
        self.assertEqual(shop.give_up(2), 7)
        self.assertEqual(shop.give_up(0), 5)
        self.assert_owed(shop, 1, 6)

    def test_one_order_alone_is_given_up(self):
        shop = Shop(100, [3, 3])
        shop.order(0, 5, 1)
        shop.order(0, 6, 1)
        shop.order(1, 7, 1)
        shop.give_up(1)
        self.assert_owed(shop, 0, 5)
        self.assert_owed(shop, 2, 7)


class SellTest(ShopCase):

    def stocked(self, prices, pieces):
        shop = Shop(0, prices)
        for kind in range(len(prices)):
            shop.came(shop.order(kind, pieces, 0), pieces, 0)
        return shop

    def test_sales_are_numbered_from_nought_by_themselves(self):
        shop = self.stocked([3, 4], 9)
        self.assertEqual([shop.sell(kind, 2) for kind in (1, 0, 0, 1)], [0, 1, 2, 3])
        self.assertEqual(shop.order(0, 1, 1), 2)

    def test_pieces_leave_the_shelf_and_their_price_comes_in(self):
        shop = self.stocked([3, 4], 9)
        shop.sell(1, 5)
        self.assert_till(shop, 20)
        self.assert_shelf(shop, 1, 4)
        # One piece more came, to see the till.
        self.assert_shelf(shop, 0, 10)

    def test_a_price_of_nought(self):
        shop = self.stocked([0], 9)
        self.assertEqual(shop.sell(0, 5), 0)
        self.assertEqual(shop.back(0, 2), 0)
        self.assert_till(shop, 0)

    def test_edges_of_kind(self):
        shop = self.stocked([3, 4, 5], 9)
        for kind in (-1, -2, -3, -4, 3, 4, LARGE, -LARGE):
            self.assert_refused(NoKind, shop.sell, kind, 1)
        self.assertEqual(shop.sell(0, 1), 0)
        self.assertEqual(shop.sell(2, 1), 1)

    def test_edges_of_pieces(self):
        for pieces in (0, -1, -LARGE):
            self.assert_refused(NoMany, self.stocked([3], 5).sell, 0, pieces)
        for pieces in (1, 4, 5):
            self.assertEqual(self.stocked([3], 5).sell(0, pieces), 0)
        for pieces in (6, 7, LARGE):
            self.assert_refused(TooFew, self.stocked([3], 5).sell, 0, pieces)

    def test_each_kind_has_a_shelf_of_its_own(self):
        shop = Shop(0, [3, 4])
        shop.came(shop.order(0, 5, 0), 5, 0)
        self.assert_refused(TooFew, shop.sell, 1, 1)
        self.assertEqual(shop.sell(0, 5), 0)

    def test_order_of_the_refusals(self):
        shop = self.stocked([3], 5)
        for kind in (-1, 1):
            for pieces in (0, -1, 6, 1):
                self.assert_refused(NoKind, shop.sell, kind, pieces)
        bare = Shop(0, [3])
        self.assert_refused(NoMany, bare.sell, 0, 0)
        self.assert_refused(NoMany, bare.sell, 0, -1)
        self.assert_refused(TooFew, bare.sell, 0, 1)

    def test_a_refused_sale_changes_nothing_and_has_no_number(self):
        shop = self.stocked([3], 5)
        self.assert_refused(NoKind, shop.sell, 1, 1)
        self.assert_refused(NoMany, shop.sell, 0, 0)
        self.assert_refused(TooFew, shop.sell, 0, 6)
        self.assert_refused(NoSale, shop.back, 0, 1)
        self.assert_till(shop, 0)
        self.assertEqual(shop.sell(0, 6), 0)
        self.assert_refused(TooFew, shop.sell, 0, 1)
        self.assert_refused(NoSale, shop.back, 1, 1)


class BackTest(ShopCase):

    def shop_with_five_sold(self):
        shop = Shop(0, [3, 4])
        for kind in (0, 1):
            shop.came(shop.order(kind, 8, 0), 8, 0)
        shop.sell(1, 5)
        return shop

    def test_pieces_come_on_the_shelf_and_their_price_goes_out(self):
        shop = self.shop_with_five_sold()
        self.assertEqual(shop.back(0, 2), 8)
        self.assert_till(shop, 12)
        self.assert_shelf(shop, 1, 5)

    def test_pieces_that_are_back_can_be_sold_again(self):
        shop = self.shop_with_five_sold()
        shop.back(0, 5)
        self.assertEqual(shop.sell(1, 8), 1)
        self.assertEqual(shop.back(1, 8), 32)
        self.assert_refused(TooMany, shop.back, 0, 1)

    def test_in_parts(self):
        shop = self.shop_with_five_sold()
        self.assertEqual([shop.back(0, pieces) for pieces in (1, 3, 1)], [4, 12, 4])
        self.assert_refused(TooMany, shop.back, 0, 1)
        self.assert_till(shop, 0)

    def test_a_sale_that_is_wholly_back_is_still_a_sale(self):
        shop = self.shop_with_five_sold()
        shop.back(0, 5)
        self.assert_refused(TooMany, shop.back, 0, 1)
        self.assert_refused(NoMany, shop.back, 0, 0)
        self.assert_refused(NoSale, shop.back, 1, 1)

    def test_edges_of_sale(self):
        shop = self.shop_with_five_sold()
        shop.sell(0, 2)
        shop.sell(0, 4)
        for number in (-1, -2, -3, -4, 3, 4, LARGE, -LARGE):
            self.assert_refused(NoSale, shop.back, number, 1)
        self.assertEqual(shop.back(2, 4), 12)
        self.assertEqual(shop.back(0, 5), 20)
        self.assert_out(shop, 1, 2)

    def test_edges_of_pieces(self):
        for pieces in (0, -1, -LARGE):
            self.assert_refused(NoMany, self.shop_with_five_sold().back, 0, pieces)
        for pieces in (1, 4, 5):
            self.assertEqual(self.shop_with_five_sold().back(0, pieces), 4 * pieces)
        for pieces in (6, 7, LARGE):
            self.assert_refused(TooMany, self.shop_with_five_sold().back, 0, pieces)

    def test_edges_of_the_till(self):
        for coins, taken in ((12, True), (11, False), (13, True)):
            shop = self.shop_with_five_sold()
            shop.came(shop.order(0, 1, 20 - coins), 1, 0)
            if taken:
                self.assertEqual(shop.back(0, 3), 12)
                self.assert_till(shop, coins - 12)
            else:
                self.assert_refused(Broke, shop.back, 0, 3)
                self.assertEqual(shop.back(0, 2), 8)

    def test_sales_are_kept_apart(self):
        shop = self.shop_with_five_sold()
        shop.sell(1, 3)
        shop.back(1, 3)
        self.assert_out(shop, 0, 5)

    def test_order_of_the_refusals(self):
        shop = self.shop_with_five_sold()
        shop.came(shop.order(0, 1, 20), 1, 0)
        for number in (-1, 1):
            for pieces in (0, -1, 6, 1):
                self.assert_refused(NoSale, shop.back, number, pieces)
        self.assert_refused(NoMany, shop.back, 0, 0)
        self.assert_refused(TooMany, shop.back, 0, 6)
        self.assert_refused(Broke, shop.back, 0, 5)
        self.assert_refused(Broke, shop.back, 0, 1)

    def test_a_refused_return_changes_nothing(self):
        shop = self.shop_with_five_sold()
        shop.came(shop.order(0, 1, 17), 1, 0)
        self.assert_refused(NoSale, shop.back, 1, 1)
        self.assert_refused(NoMany, shop.back, 0, 0)
        self.assert_refused(TooMany, shop.back, 0, 6)
        self.assert_refused(Broke, shop.back, 0, 1)
        self.assert_till(shop, 3)
        self.assert_shelf(shop, 1, 3)
        # Other goods bring in the coins for the return.
        shop.sell(0, 9)
        self.assert_out(shop, 0, 5)


class LargeNumbersTest(ShopCase):

    def test_numbers_of_sixty_one_figures(self):
        self.assertEqual(len(str(LARGE)), 61)
        shop = Shop(LARGE, [LARGE])
        self.assertEqual(shop.order(0, LARGE, 1), 0)
        self.assertEqual(shop.came(0, LARGE, LARGE), 0)
        self.assertEqual(shop.came(0, LARGE, 1), LARGE - 1)
        self.assert_refused(TooMany, shop.came, 0, LARGE, 0)
        self.assertEqual(shop.give_up(0), 1)
        self.assert_refused(TooFew, shop.sell, 0, LARGE)
        self.assertEqual(shop.sell(0, LARGE - 1), 0)
        self.assert_refused(TooMany, shop.back, 0, LARGE)
        self.assertEqual(shop.back(0, LARGE - 2), LARGE * (LARGE - 2))
        self.assert_till(shop, LARGE + 1)

    def test_a_large_till_that_is_one_coin_short(self):
        shop = Shop(LARGE * LARGE - 1, [0])
        shop.order(0, LARGE, LARGE)
        self.assert_refused(Broke, shop.came, 0, LARGE, 0)
        self.assertEqual(shop.came(0, LARGE, 1), LARGE - 1)
        self.assert_till(shop, LARGE - 1)

    def test_numbers_somewhat_beyond_sixty_one_figures(self):
        beyond = 10 ** 70
        shop = Shop(beyond, [beyond])
        self.assertEqual(shop.order(0, beyond, 1), 0)
        self.assertEqual(shop.came(0, beyond, 0), beyond)
        self.assertEqual(shop.sell(0, beyond), 0)
        self.assertEqual(shop.back(0, 1), beyond)


if __name__ == "__main__":
    unittest.main()
