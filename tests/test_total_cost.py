import unittest

from boxeskept.stocks import total_cost
from reference import BOXES, GREATEST, ITEMS, all_costs, made_up_inputs


class OrdinaryCostsTest(unittest.TestCase):
    def test_example(self):
        self.assertEqual(total_cost(7, BOXES, ITEMS), [155])

    def test_each_stock_of_the_example(self):
        costs = [1400000, 400080, 300297, 300107, 100208, 100128, 235, 155]
        for stock, cost in enumerate(costs):
            self.assertEqual(total_cost(stock, BOXES, ITEMS), [cost], stock)

    def test_bit_i_is_box_i(self):
        boxes = [1, 1, 1, 2, 1, 1, 3, 1, 1, 4, 1, 1, 5, 1, 1, 6, 1, 1, 7, 1, 1]
        for box in range(7):
            self.assertEqual(total_cost(1 << box, boxes, [1, 1, 1, 1]), [box + 1])

    def test_smallest_volume_wherever_it_stands(self):
        for boxes in ([2, 2, 2, 3, 3, 3, 4, 4, 4], [3, 3, 3, 2, 2, 2, 4, 4, 4],
                      [4, 4, 4, 3, 3, 3, 2, 2, 2]):
            self.assertEqual(total_cost(7, boxes, [2, 1, 2, 5]), [40])

    def test_smallest_volume_with_a_longer_edge(self):
        self.assertEqual(total_cost(3, [3, 3, 3, 10, 2, 1], [2, 1, 1, 1]), [20])

    def test_quantity_counts_each_piece(self):
        for quantity in (1, 2, 20, 21, 98, 99):
            self.assertEqual(total_cost(1, [3, 2, 1], [1, 1, 1, quantity]), [6 * quantity])

    def test_equal_items(self):
        self.assertEqual(total_cost(1, [3, 2, 1], [1, 1, 1, 2, 1, 1, 1, 2]), [24])

    def test_same_as_found_another_way(self):
        for boxes, items in made_up_inputs(11, 400):
            for stock, cost in enumerate(all_costs(boxes, items)):
                self.assertEqual(total_cost(stock, boxes, items), [cost], (stock, boxes, items))

    def test_an_additional_box_never_increases_the_cost(self):
        for boxes, items in made_up_inputs(12, 100):
            count = len(boxes) // 3
            for stock in range(1 << count):
                cost = total_cost(stock, boxes, items)[0]
                for box in range(count):
                    more = total_cost(stock | 1 << box, boxes, items)[0]
                    self.assertLessEqual(more, cost, (stock, box, boxes, items))


class NothingThereTest(unittest.TestCase):
    def test_no_items(self):
        for stock in range(8):
            self.assertEqual(total_cost(stock, BOXES, []), [0])

    def test_no_boxes(self):
        self.assertEqual(total_cost(0, [], ITEMS), [1400000])

    def test_no_boxes_and_no_items(self):
        self.assertEqual(total_cost(0, [], []), [0])

    def test_stock_0(self):
        self.assertEqual(total_cost(0, BOXES, ITEMS), [1400000])
        self.assertEqual(total_cost(0, [20, 20, 20], [1, 1, 1, 1]), [100000])
        self.assertEqual(total_cost(0, [20, 20, 20], [1, 1, 1, 99]), [9900000])

    def test_greatest_cost(self):
        self.assertEqual(total_cost(0, [1] * 21, [1, 1, 1, 99] * 8), [79200000])


class FittingTest(unittest.TestCase):
    def test_fits_into_no_stocked_box(self):
        self.assertEqual(total_cost(1, [2, 2, 2], [3, 1, 1, 1]), [100000])
        self.assertEqual(total_cost(1, [2, 2, 2], [3, 1, 1, 7]), [700000])

    def test_fits_only_into_a_box_that_is_not_stocked(self):
        self.assertEqual(total_cost(1, [2, 2, 2, 3, 3, 3], [3, 1, 1, 7]), [700000])
        self.assertEqual(total_cost(2, [2, 2, 2, 3, 3, 3], [3, 1, 1, 7]), [189])

    def test_some_items_fit_and_others_do_not(self):
        self.assertEqual(total_cost(1, [2, 2, 2], [1, 1, 1, 3, 3, 1, 1, 2]), [200024])

    def test_as_large_as_the_box(self):
        self.assertEqual(total_cost(1, [4, 3, 2], [4, 3, 2, 1]), [24])
        self.assertEqual(total_cost(1, [20, 20, 20], [20, 20, 20, 1]), [8000])

    def test_one_edge_too_long(self):
        for item in ([5, 3, 2, 1], [4, 4, 2, 1], [4, 3, 3, 1]):
            self.assertEqual(total_cost(1, [4, 3, 2], item), [100000], item)

    def test_fits_only_when_turned(self):
        turns = ([1, 2, 3], [1, 3, 2], [2, 1, 3], [2, 3, 1], [3, 1, 2], [3, 2, 1])
        for box in turns:
            for item in turns:
                self.assertEqual(total_cost(1, box, item + [2]), [12], (box, item))

    def test_a_small_item_may_be_too_long(self):
        self.assertEqual(total_cost(1, [19, 19, 19], [1, 1, 20, 1]), [100000])

    def test_equal_boxes(self):
        boxes = [2, 2, 1, 1, 2, 2, 2, 2, 1]
        for stock in range(1, 8):
            self.assertEqual(total_cost(stock, boxes, [2, 1, 2, 3]), [12])


class StockThatDoesNotExistTest(unittest.TestCase):
    def test_greatest_that_exists_and_first_that_does_not(self):
        for count in range(1, 8):
            boxes = [2, 2, 2] * count
            self.assertEqual(total_cost(2 ** count - 1, boxes, [1, 1, 1, 2]), [16], count)
            self.assertEqual(total_cost(2 ** count, boxes, [1, 1, 1, 2]), [-2], count)
            self.assertEqual(total_cost(2 ** count + 1, boxes, [1, 1, 1, 2]), [-2], count)

    def test_with_7_boxes(self):
        boxes = [1, 1, 1] * 6 + [2, 1, 1]
        self.assertEqual(total_cost(127, boxes, [2, 1, 1, 1]), [2])
        self.assertEqual(total_cost(128, boxes, [2, 1, 1, 1]), [-2])

    def test_with_none(self):
        self.assertEqual(total_cost(0, [], ITEMS), [1400000])
        self.assertEqual(total_cost(1, [], ITEMS), [-2])
        self.assertEqual(total_cost(GREATEST, [], ITEMS), [-2])

    def test_4294967295(self):
        self.assertEqual(total_cost(GREATEST, BOXES, ITEMS), [-2])
        self.assertEqual(total_cost(GREATEST, [2, 2, 2] * 7, ITEMS), [-2])

    def test_only_high_bits(self):
        for bit in range(3, 32):
            self.assertEqual(total_cost(1 << bit, BOXES, ITEMS), [-2], bit)

    def test_without_items(self):
        self.assertEqual(total_cost(8, BOXES, []), [-2])


if __name__ == "__main__":
    unittest.main()
