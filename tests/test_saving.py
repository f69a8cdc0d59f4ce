import itertools
import unittest

from boxeskept.stocks import saving, total_cost
from reference import BOXES, GREATEST, ITEMS, all_costs, made_up_inputs, saving_of


class OrdinarySavingsTest(unittest.TestCase):
    def test_examples(self):
        self.assertEqual(saving(6, 0, BOXES, ITEMS), [80])
        self.assertEqual(saving(6, 1, BOXES, ITEMS), [-17])

    def test_each_stock_and_box_of_the_example(self):
        answers = {
            0: [[999920], [1099703], [1299792]],
            1: [[-17], [99973], [299952]],
            2: [[190], [-17], [300062]],
            3: [[-17], [-17], [299952]],
            4: [[80], [99973], [-17]],
            5: [[-17], [99973], [-17]],
            6: [[80], [-17], [-17]],
            7: [[-17], [-17], [-17]],
        }
        for stock, answers_by_box in answers.items():
            for box, answer in enumerate(answers_by_box):
                self.assertEqual(saving(stock, box, BOXES, ITEMS), answer, (stock, box))

    def test_the_only_box(self):
        self.assertEqual(saving(0, 0, [3, 2, 1], [1, 2, 3, 1]), [100000 - 6])
        self.assertEqual(saving(0, 0, [20, 20, 20], [20, 20, 20, 99]), [99 * 92000])

    def test_each_piece_saves(self):
        for quantity in (1, 2, 20, 21, 98, 99):
            items = [1, 1, 1, quantity]
            self.assertEqual(saving(1, 1, [3, 2, 1, 2, 1, 1], items), [4 * quantity])

    def test_the_index_is_the_place_in_the_list(self):
        boxes = [20, 20, 20, 1, 1, 1, 2, 1, 1, 3, 1, 1, 4, 1, 1, 5, 1, 1, 6, 1, 1]
        for box in range(1, 7):
            self.assertEqual(saving(1, box, boxes, [1, 1, 1, 1]), [8000 - box], box)

    def test_only_items_that_are_better_off_count(self):
        # The first item goes into the box at last, the second one goes cheaper, two stay.
        boxes = [2, 2, 2, 5, 1, 1]
        items = [5, 1, 1, 3, 2, 1, 1, 4, 2, 2, 1, 9, 6, 6, 6, 9]
        self.assertEqual(saving(1, 1, boxes, items), [3 * 99995 + 4 * 3])

    def test_same_as_found_another_way(self):
        for boxes, items in made_up_inputs(61, 300):
            costs = all_costs(boxes, items)
            for stock in range(len(costs) + 2):
                for box in range(len(boxes) // 3 + 2):
                    self.assertEqual(
                        saving(stock, box, boxes, items), saving_of(stock, box, costs),
                        (stock, box, boxes, items))

    def test_the_greatest_saving(self):
        self.assertEqual(saving(0, 6, [1] * 21, [1, 1, 1, 99] * 8), [99 * 8 * 99999])


class NothingSavedTest(unittest.TestCase):
    def test_no_items(self):
        for stock, box in ((0, 0), (0, 2), (3, 2), (6, 0)):
            self.assertEqual(saving(stock, box, BOXES, []), [0])

    def test_no_item_fits(self):
        self.assertEqual(saving(0, 0, [2, 2, 2], [3, 1, 1, 99]), [0])
        self.assertEqual(saving(1, 1, [3, 1, 1, 2, 2, 2], [3, 1, 1, 99]), [0])

    def test_larger_than_what_is_stocked(self):
        self.assertEqual(saving(1, 1, [2, 2, 2, 3, 3, 3], [2, 1, 1, 5]), [0])

    def test_as_large_as_what_is_stocked(self):
        self.assertEqual(saving(1, 1, [2, 2, 2, 2, 2, 2], [2, 1, 1, 5]), [0])
        self.assertEqual(saving(1, 1, [6, 2, 1, 3, 2, 2], [2, 1, 1, 5]), [0])

    def test_equal_boxes_are_not_the_same_box(self):
        boxes = [2, 2, 2] * 7
        for box in range(7):
            others = 127 - 2 ** box
            self.assertEqual(saving(others, box, boxes, [1, 1, 1, 1]), [0], box)
            self.assertEqual(saving(2 ** box, box, boxes, [1, 1, 1, 1]), [-17], box)
            self.assertEqual(saving(0, box, boxes, [1, 1, 1, 1]), [99992], box)


class BoxOrStockThatDoesNotExistTest(unittest.TestCase):
    def test_greatest_stock_that_exists_and_first_that_does_not(self):
        for count in range(1, 8):
            boxes = [2, 2, 2] * count
            last = count - 1
            self.assertEqual(saving(2 ** last - 1, last, boxes, []), [0], count)
            self.assertEqual(saving(2 ** count - 1, last, boxes, []), [-17], count)
            self.assertEqual(saving(2 ** count, last, boxes, []), [-2], count)
            self.assertEqual(saving(2 ** count + 1, last, boxes, []), [-2], count)

    def test_last_box_that_exists_and_first_that_does_not(self):
        for count in range(1, 8):
            boxes = [2, 2, 2] * count
            for items in ([], ITEMS):
                self.assertGreaterEqual(saving(0, count - 1, boxes, items)[0], 0, count)
                self.assertEqual(saving(0, count, boxes, items), [-2], count)
                self.assertEqual(saving(0, count + 1, boxes, items), [-2], count)

    def test_far_away(self):
        for boxes in (BOXES, [2, 2, 2] * 7):
            for number in (7, 8, 31, 32, 64, 128, 4294967294, GREATEST):
                self.assertEqual(saving(0, number, boxes, ITEMS), [-2], number)
            for number in (128, 2 ** 31, 4294967294, GREATEST):
                self.assertEqual(saving(number, 0, boxes, ITEMS), [-2], number)
            self.assertEqual(saving(GREATEST, GREATEST, boxes, ITEMS), [-2])

    def test_only_high_bits(self):
        for bit in range(3, 32):
            self.assertEqual(saving(1 << bit, 0, BOXES, ITEMS), [-2], bit)

    def test_no_boxes(self):
        for stock in (0, 1, GREATEST):
            for box in (0, 1, GREATEST):
                for items in ([], ITEMS):
                    self.assertEqual(saving(stock, box, [], items), [-2], (stock, box))


class OrderOfErrorsTest(unittest.TestCase):
    def test_bad_list_ahead_of_all(self):
        bad = (([1], ITEMS), (BOXES + [1], ITEMS), ([0] + BOXES[1:], ITEMS),
               (BOXES, [1]), (BOXES, [1, 1, 1, 100]), (BOXES, ITEMS + [21, 1, 1, 1]), ([1], [1]))
        for boxes, items in bad:
            for stock in (0, 1, 7, 8, 9, GREATEST):
                for box in (0, 1, 2, 3, GREATEST):
                    self.assertEqual(saving(stock, box, boxes, items), [-22], (stock, box))

    def test_stock_that_does_not_exist_ahead_of_box_that_is_stocked(self):
        self.assertEqual(saving(1, 0, BOXES, ITEMS), [-17])
        # In each of these stocks box 0 is.
        for stock in (9, 15, 129, GREATEST):
            self.assertEqual(saving(stock, 0, BOXES, ITEMS), [-2], stock)

    def test_box_that_does_not_exist_ahead_of_box_that_is_stocked(self):
        # The box's own bit is in the stock, but no such box is there.
        for box in range(3, 32):
            self.assertEqual(saving(1 << box, box, BOXES, ITEMS), [-2], box)
            self.assertEqual(saving(7, box, BOXES, ITEMS), [-2], box)


class WhatSavingsAmountToTest(unittest.TestCase):
    def test_saving_is_how_far_the_total_cost_falls(self):
        for boxes, items in made_up_inputs(62, 80):
            count = len(boxes) // 3
            costs = [total_cost(stock, boxes, items)[0] for stock in range(2 ** count)]
            for stock in range(2 ** count):
                for box in range(count):
                    if not stock >> box & 1:
                        fall = costs[stock] - costs[stock | 1 << box]
                        self.assertEqual(saving(stock, box, boxes, items), [fall])

    def test_box_by_box_in_every_order_they_add_up(self):
        for order in itertools.permutations(range(3)):
            stock = 0
            saved = 0
            for box in order:
                saved += saving(stock, box, BOXES, ITEMS)[0]
                stock |= 1 << box
            self.assertEqual(saved, 1400000 - 155, order)


class DiminishingReturnsTest(unittest.TestCase):
    """Requirement 2."""

    def inputs(self):
        yield BOXES, ITEMS
        yield [20, 20, 20, 9, 9, 9, 9, 2, 9, 3, 3, 3, 1, 9, 1], [3, 2, 1, 7, 9, 1, 1, 5, 9, 9, 9, 1]
        yield from made_up_inputs(63, 60)

    def test_any_two_stocks(self):
        unequal = 0
        for boxes, items in self.inputs():
            stocks = range(2 ** (len(boxes) // 3))
            costs = [total_cost(stock, boxes, items)[0] for stock in stocks]
            for one in stocks:
                for other in stocks:
                    apart = costs[one] + costs[other]
                    together = costs[one | other] + costs[one & other]
                    if apart > together:
                        self.fail((one, other, boxes, items))
                    unequal += apart < together
        self.assertGreater(unequal, 1000)

    def test_a_saving_never_increases_when_other_boxes_are_added(self):
        decreased = 0
        for boxes, items in self.inputs():
            count = len(boxes) // 3
            for stock in range(2 ** count):
                missing = [box for box in range(count) if not stock >> box & 1]
                for box, other in itertools.permutations(missing, 2):
                    alone = saving(stock, box, boxes, items)[0]
                    beside = saving(stock | 1 << other, box, boxes, items)[0]
                    self.assertLessEqual(beside, alone, (stock, box, other, boxes, items))
                    decreased += beside < alone
        self.assertGreater(decreased, 1000)


if __name__ == "__main__":
    unittest.main()
