"""Points 1, 2 and 8 to 10, for answers, book and states of a day."""

import copy
import inspect
import unittest

from shelfbook.day import answers, book, states

# The largest whole number of sixty-one figures.
LARGE = 10 ** 61 - 1

# A day with each deed, without a refusal: (deed, its answer, its entry, the state behind it).
PLAIN_TILL = 50
PLAIN_PRICES = [5, 8]
PLAIN_DAY = (
    (("order", 1, 10, 3), 0, ("ordered", 0, 10, 0), (50, [0, 0], [0, 10])),
    (("order", 0, 4, 6), 1, ("ordered", 1, 4, 0), (50, [0, 0], [4, 10])),
    (("came", 0, 6, 2), 4, ("came", 0, 4, 12), (38, [0, 4], [4, 6])),
    (("came", 1, 4, 4), 0, ("came", 1, 0, 0), (38, [0, 4], [4, 6])),
    (("came", 1, 4, 1), 3, ("came", 1, 3, 18), (20, [3, 4], [1, 6])),
    (("sell", 1, 3), 0, ("sold", 0, 3, 24), (44, [3, 1], [1, 6])),
    (("sell", 0, 2), 1, ("sold", 1, 2, 10), (54, [1, 1], [1, 6])),
    (("back", 0, 1), 8, ("back", 0, 1, 8), (46, [1, 2], [1, 6])),
    (("back", 0, 2), 16, ("back", 0, 2, 16), (30, [1, 4], [1, 6])),
    (("give up", 0), 6, ("given up", 0, 6, 0), (30, [1, 4], [1, 0])),
    (("back", 1, 1), 5, ("back", 1, 1, 5), (25, [2, 4], [1, 0])),
    (("order", 1, 2, 1), 2, ("ordered", 2, 2, 0), (25, [2, 4], [1, 2])),
    (("came", 1, 1, 0), 1, ("came", 1, 1, 6), (19, [3, 4], [0, 2])),
)

# A day with each refusal; a refused deed has None for its entry.
REFUSED_TILL = 10
REFUSED_PRICES = [4, 0]
REFUSED_DAY = (
    (("order", 2, 1, 1), "no kind", None, (10, [0, 0], [0, 0])),
    (("order", -1, 1, 1), "no kind", None, (10, [0, 0], [0, 0])),
    (("sell", 2, 1), "no kind", None, (10, [0, 0], [0, 0])),
    (("came", 0, 1, 0), "no order", None, (10, [0, 0], [0, 0])),
    (("give up", 0), "no order", None, (10, [0, 0], [0, 0])),
    (("back", 0, 1), "no sale", None, (10, [0, 0], [0, 0])),
    (("sell", 0, 1), "too few", None, (10, [0, 0], [0, 0])),
    (("order", 0, 0, 1), "no many", None, (10, [0, 0], [0, 0])),
    (("order", 0, 1, -1), "no many", None, (10, [0, 0], [0, 0])),
    (("order", 0, 5, 3), 0, ("ordered", 0, 5, 0), (10, [0, 0], [5, 0])),
    (("came", 0, 0, 0), "no many", None, (10, [0, 0], [5, 0])),
    (("came", 0, 2, 3), "no many", None, (10, [0, 0], [5, 0])),
    (("came", 0, 6, 0), "too many", None, (10, [0, 0], [5, 0])),
    (("came", 0, 4, 0), "broke", None, (10, [0, 0], [5, 0])),
    (("came", -1, 1, 0), "no order", None, (10, [0, 0], [5, 0])),
    (("came", 0, 5, 2), 3, ("came", 0, 3, 9), (1, [3, 0], [2, 0])),
    (("sell", 0, 0), "no many", None, (1, [3, 0], [2, 0])),
    (("sell", 0, 4), "too few", None, (1, [3, 0], [2, 0])),
    (("sell", 0, 2), 0, ("sold", 0, 2, 8), (9, [1, 0], [2, 0])),
    (("back", 0, 0), "no many", None, (9, [1, 0], [2, 0])),
    (("back", 0, 3), "too many", None, (9, [1, 0], [2, 0])),
    (("back", 1, 1), "no sale", None, (9, [1, 0], [2, 0])),
    (("back", -1, 1), "no sale", None, (9, [1, 0], [2, 0])),
    (("came", 0, 2, 0), 2, ("came", 0, 2, 6), (3, [3, 0], [0, 0])),
    (("came", 0, 1, 0), "no order", None, (3, [3, 0], [0, 0])),
    (("give up", 0), "no order", None, (3, [3, 0], [0, 0])),
    (("back", 0, 1), "broke", None, (3, [3, 0], [0, 0])),
    (("order", 1, 7, 0), 1, ("ordered", 1, 7, 0), (3, [3, 0], [0, 7])),
    (("give up", 1), 7, ("given up", 1, 7, 0), (3, [3, 0], [0, 0])),
    (("give up", 1), "no order", None, (3, [3, 0], [0, 0])),
    (("sell", 0, 1), 1, ("sold", 1, 1, 4), (7, [2, 0], [0, 0])),
)


class DayTest(unittest.TestCase):

    def assert_day(self, till, prices, day):
        deeds = [row[0] for row in day]
        self.assertEqual(answers(till, prices, deeds), [row[1] for row in day])
        self.assertEqual(book(till, prices, deeds), [row[2] for row in day if row[2] is not None])
        self.assertEqual(states(till, prices, deeds), [row[3] for row in day])

    def assert_answers(self, till, prices, *rows):
        self.assertEqual(answers(till, prices, [row[0] for row in rows]), [row[1] for row in rows])

    def test_names_of_the_arguments(self):
        for called in (answers, book, states):
            with self.subTest(called=called):
                self.assertEqual(list(inspect.signature(called).parameters), ["till", "prices", "deeds"])
                self.assertEqual(called(deeds=[], prices=[1], till=2), [])

    def test_an_empty_day(self):
        for called in (answers, book, states):
            for till, prices in ((0, []), (0, [1]), (9, [1, 2, 3])):
                self.assertEqual(called(till, prices, []), [])

    def test_a_day_with_each_deed(self):
        self.assert_day(PLAIN_TILL, PLAIN_PRICES, PLAIN_DAY)

    def test_a_day_with_each_refusal(self):
        self.assert_day(REFUSED_TILL, REFUSED_PRICES, REFUSED_DAY)
        texts = {row[1] for row in REFUSED_DAY if row[2] is None}
        self.assertEqual(texts, {"no kind", "no order", "no sale", "no many", "too many", "too few", "broke"})

    def test_each_beginning_of_a_day(self):
        for till, prices, day in ((PLAIN_TILL, PLAIN_PRICES, PLAIN_DAY),
                                  (REFUSED_TILL, REFUSED_PRICES, REFUSED_DAY)):
            for length in range(len(day) + 1):
                self.assert_day(till, prices, day[:length])

    def test_refused_deeds_leave_the_rest_of_the_day_as_it_is(self):
        taken = [row for row in REFUSED_DAY if row[2] is not None]
        self.assert_day(REFUSED_TILL, REFUSED_PRICES, taken)

    def test_a_day_of_refusals_alone(self):
        deeds = [("sell", 0, 1), ("came", 0, 1, 0), ("back", 0, 1)]
        self.assertEqual(answers(5, [1], deeds), ["too few", "no order", "no sale"])
        self.assertEqual(book(5, [1], deeds), [])
        self.assertEqual(states(5, [1], deeds), [(5, [0], [0])] * 3)

    def test_a_day_without_kinds(self):
        deeds = [("order", 0, 1, 1), ("sell", 0, 1), ("give up", 0), ("back", 0, 1)]
        self.assertEqual(answers(5, [], deeds), ["no kind", "no kind", "no order", "no sale"])
        self.assertEqual(book(5, [], deeds), [])
        self.assertEqual(states(5, [], deeds), [(5, [], [])] * 4)

    def test_the_refusal_named_first_is_answered(self):
        self.assert_answers(
            0, [4],
            (("order", 1, 0, -1), "no kind"),
            (("sell", 1, 0), "no kind"),
            (("sell", 0, 0), "no many"),
            (("came", 0, 0, 1), "no order"),
            (("back", 0, 0), "no sale"),
            (("order", 0, 5, 1), 0),
            (("came", 0, 6, 7), "no many"),
            (("came", 0, 6, 0), "too many"),
            (("came", 0, 5, 0), "broke"),
            (("order", 0, 2, 0), 1),
            (("came", 1, 2, 0), 2),
            (("sell", 0, 1), 0),
            (("order", 0, 1, 4), 2),
            (("came", 2, 1, 0), 1),
            (("back", 0, 2), "too many"),
            (("back", 0, 0), "no many"),
            (("back", 0, 1), "broke"),
        )

    def test_edges_of_the_till(self):
        deeds = [("order", 0, 3, 5), ("came", 0, 3, 1)]
        self.assertEqual(answers(10, [1], deeds), [0, 2])
        self.assertEqual(states(10, [1], deeds)[1], (0, [2], [1]))
        self.assertEqual(answers(9, [1], deeds), [0, "broke"])
        self.assertEqual(states(9, [1], deeds)[1], (9, [0], [3]))

    def test_a_price_of_nought(self):
        deeds = [("order", 0, 3, 0), ("came", 0, 3, 0), ("sell", 0, 2), ("back", 0, 1)]
        self.assertEqual(answers(0, [0], deeds), [0, 3, 0, 0])
        self.assertEqual(book(0, [0], deeds), [
            ("ordered", 0, 3, 0), ("came", 0, 3, 0), ("sold", 0, 2, 0), ("back", 0, 1, 0)])
        self.assertEqual(states(0, [0], deeds)[3], (0, [2], [0]))

    def test_numbers_of_sixty_one_figures(self):
        paid = LARGE * (LARGE - 1)
        self.assert_day(paid, [LARGE], (
            (("order", 0, LARGE, LARGE), 0, ("ordered", 0, LARGE, 0), (paid, [0], [LARGE])),
            (("came", 0, LARGE, 0), "broke", None, (paid, [0], [LARGE])),
            (("came", 0, LARGE, 1), LARGE - 1, ("came", 0, LARGE - 1, paid), (0, [LARGE - 1], [1])),
            (("sell", 0, LARGE), "too few", None, (0, [LARGE - 1], [1])),
            (("sell", 0, LARGE - 1), 0, ("sold", 0, LARGE - 1, paid), (paid, [0], [1])),
            (("back", 0, LARGE), "too many", None, (paid, [0], [1])),
            (("back", 0, LARGE - 1), paid, ("back", 0, LARGE - 1, paid), (0, [LARGE - 1], [1])),
            (("sell", LARGE, 1), "no kind", None, (0, [LARGE - 1], [1])),
            (("give up", -LARGE), "no order", None, (0, [LARGE - 1], [1])),
            (("give up", 0), 1, ("given up", 0, 1, 0), (0, [LARGE - 1], [0])),
        ))

    def test_kinds_of_the_values(self):
        deeds = [row[0] for row in REFUSED_DAY]
        for answer in answers(REFUSED_TILL, REFUSED_PRICES, deeds):
            self.assertIn(type(answer), (int, str))
        for entry in book(REFUSED_TILL, REFUSED_PRICES, deeds):
            self.assertEqual([type(part) for part in entry], [str, int, int, int])
            self.assertIs(type(entry), tuple)
        for state in states(REFUSED_TILL, REFUSED_PRICES, deeds):
            self.assertEqual([type(part) for part in state], [int, list, list])
            self.assertIs(type(state), tuple)
        for called in (answers, book, states):
            self.assertIs(type(called(REFUSED_TILL, REFUSED_PRICES, deeds)), list)

    def test_the_lists_of_each_state_are_its_own(self):
        told = states(PLAIN_TILL, PLAIN_PRICES, [row[0] for row in PLAIN_DAY])
        lists = [part for state in told for part in state[1:]]
        self.assertEqual(len({id(part) for part in lists}), 2 * len(PLAIN_DAY))
        for part in lists[:2]:
            part.append(99)
        self.assertEqual(told[1:], [row[3] for row in PLAIN_DAY][1:])

    def test_what_is_handed_in_is_not_changed(self):
        for till, prices, day in ((PLAIN_TILL, PLAIN_PRICES, PLAIN_DAY),
                                  (REFUSED_TILL, REFUSED_PRICES, REFUSED_DAY)):
            for called in (answers, book, states):
                handed_prices = list(prices)
                deeds = [row[0] for row in day]
                before = copy.deepcopy(deeds)
                called(till, handed_prices, deeds)
                self.assertEqual(handed_prices, prices)
                self.assertEqual(deeds, before)

    def test_a_day_begins_anew_at_each_call(self):
        deeds = [row[0] for row in PLAIN_DAY]
        for called in (answers, book, states):
            first = called(PLAIN_TILL, PLAIN_PRICES, deeds)
            kept = copy.deepcopy(first)
            second = called(PLAIN_TILL, PLAIN_PRICES, deeds)
            self.assertEqual(first, second)
            first.clear()
            self.assertEqual(second, kept)
            self.assertEqual(called(PLAIN_TILL, PLAIN_PRICES, deeds), kept)

    def test_a_long_day(self):
        deeds = [("order", 0, 1, 1), ("came", 0, 1, 1)] + [("order", 0, 2, 1)] * 5000
        told = states(3, [1], deeds)
        self.assertEqual(len(told), 5002)
        self.assertEqual(told[-1], (3, [0], [10001]))
        self.assertEqual(answers(3, [1], deeds)[-1], 5000)


if __name__ == "__main__":
    unittest.main()
