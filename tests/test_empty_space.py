import unittest

from boxeskept.stocks import box_for, empty_space, saving, total_cost
from reference import BOXES, GREATEST, ITEMS, all_costs, groups, made_up_inputs, space_of


class OrdinarySpacesTest(unittest.TestCase):
    def test_example(self):
        self.assertEqual(empty_space(7, BOXES, ITEMS), [0, 73])

    def test_each_stock_of_the_example(self):
        # The pieces have a volume of 40 + 24 + 18.
        costs = [1400000, 400080, 300297, 300107, 100208, 100128, 235, 155]
        for stock, cost in enumerate(costs):
            self.assertEqual(empty_space(stock, BOXES, ITEMS), [0, cost - 82], stock)

    def test_nothing_stays_empty(self):
        self.assertEqual(empty_space(1, [4, 3, 2], [2, 4, 3, 99]), [0, 0])
        self.assertEqual(empty_space(1, [20, 20, 20], [20, 20, 20, 99]), [0, 0])
        self.assertEqual(empty_space(3, [2, 1, 1, 3, 1, 1], [1, 1, 2, 5, 1, 3, 1, 7]), [0, 0])

    def test_one_piece(self):
        self.assertEqual(empty_space(1, [2, 2, 2], [1, 1, 1, 1]), [0, 7])
        self.assertEqual(empty_space(1, [20, 20, 20], [1, 1, 1, 1]), [0, 7999])
        self.assertEqual(empty_space(1, [3, 2, 2], [2, 1, 2, 1]), [0, 8])

    def test_each_piece_leaves_its_space(self):
        for quantity in (1, 2, 20, 21, 98, 99):
            self.assertEqual(empty_space(1, [3, 2, 1], [2, 1, 1, quantity]), [0, 4 * quantity])

    def test_equal_items(self):
        self.assertEqual(empty_space(1, [3, 2, 1], [1, 1, 1, 2, 1, 1, 1, 2]), [0, 20])

    def test_only_the_stocked_boxes_count(self):
        boxes = [3, 3, 3, 2, 2, 2]
        self.assertEqual(empty_space(1, boxes, [2, 1, 1, 5]), [0, 125])
        self.assertEqual(empty_space(2, boxes, [2, 1, 1, 5]), [0, 30])
        self.assertEqual(empty_space(3, boxes, [2, 1, 1, 5]), [0, 30])

    def test_7_boxes_and_8_items(self):
        boxes = [1, 1, 1, 2, 1, 1, 3, 1, 1, 4, 1, 1, 5, 1, 1, 6, 1, 1, 20, 20, 20]
        items = [1, 1, 1, 9, 2, 1, 1, 8, 1, 3, 1, 7, 4, 1, 1, 6, 1, 1, 5, 5, 6, 1, 1, 4,
                 1, 7, 1, 3, 2, 2, 1, 2]
        self.assertEqual(empty_space(127, boxes, items), [0, 3 * 7993 + 2 * 7996])
        self.assertEqual(empty_space(63, boxes, items), [0, 3 * 99993 + 2 * 99996])

    def test_same_as_found_another_way(self):
        for boxes, items in made_up_inputs(91, 400):
            costs = all_costs(boxes, items)
            for stock in range(len(costs)):
                self.assertEqual(
                    empty_space(stock, boxes, items), space_of(stock, costs, items),
                    (stock, boxes, items))


class FitsNowhereTest(unittest.TestCase):
    def test_a_piece_without_a_box_counts_100000_less_its_volume(self):
        self.assertEqual(empty_space(1, [2, 2, 2], [3, 1, 1, 1]), [0, 100000 - 3])
        self.assertEqual(empty_space(1, [2, 2, 2], [3, 2, 1, 7]), [0, 700000 - 42])
        self.assertEqual(empty_space(1, [19, 19, 19], [20, 20, 20, 99]), [0, 99 * 92000])

    def test_some_items_fit_and_others_do_not(self):
        self.assertEqual(
            empty_space(1, [2, 2, 2], [1, 1, 1, 3, 3, 1, 1, 2]), [0, 3 * 7 + 2 * 99997])

    def test_fits_only_into_a_box_that_is_not_stocked(self):
        self.assertEqual(empty_space(1, [2, 2, 2, 3, 3, 3], [3, 1, 1, 7]), [0, 7 * 99997])
        self.assertEqual(empty_space(2, [2, 2, 2, 3, 3, 3], [3, 1, 1, 7]), [0, 7 * 24])

    def test_nothing_stocked(self):
        self.assertEqual(empty_space(0, BOXES, ITEMS), [0, 1400000 - 82])
        self.assertEqual(empty_space(0, [20, 20, 20], [1, 1, 1, 1]), [0, 99999])

    def test_the_greatest_space(self):
        self.assertEqual(empty_space(0, [1] * 21, [1, 1, 1, 99] * 8), [0, 99 * 8 * 99999])


class NothingThereTest(unittest.TestCase):
    def test_no_items(self):
        for stock in range(8):
            self.assertEqual(empty_space(stock, BOXES, []), [0, 0], stock)

    def test_no_boxes(self):
        self.assertEqual(empty_space(0, [], ITEMS), [0, 1400000 - 82])

    def test_no_boxes_and_no_items(self):
        self.assertEqual(empty_space(0, [], []), [0, 0])


class AgainstTheOtherOperationsTest(unittest.TestCase):
    def test_total_cost_minus_the_volume_of_the_pieces(self):
        for boxes, items in made_up_inputs(92, 100):
            volume = 0
            for length, width, height, quantity in groups(items, 4):
                volume += quantity * length * width * height
            for stock in range(2 ** (len(boxes) // 3)):
                cost = total_cost(stock, boxes, items)[0]
                self.assertEqual(empty_space(stock, boxes, items), [0, cost - volume])

    def test_sum_of_what_stays_empty_in_each_piece_s_box(self):
        for boxes, items in made_up_inputs(93, 60):
            for stock in range(2 ** (len(boxes) // 3)):
                space = 0
                for *size, quantity in groups(items, 4):
                    answer = box_for(stock, boxes, size)
                    room = 100000 if answer == [-33] else answer[1]
                    space += quantity * (room - size[0] * size[1] * size[2])
                self.assertEqual(empty_space(stock, boxes, items), [0, space])

    def test_falls_by_what_a_box_saves(self):
        for boxes, items in made_up_inputs(94, 60):
            count = len(boxes) // 3
            for stock in range(2 ** count):
                for box in range(count):
                    if not stock >> box & 1:
                        fall = (empty_space(stock, boxes, items)[1]
                                - empty_space(stock | 1 << box, boxes, items)[1])
                        self.assertEqual([fall], saving(stock, box, boxes, items))


class StockThatDoesNotExistTest(unittest.TestCase):
    def test_greatest_that_exists_and_first_that_does_not(self):
        for count in range(1, 8):
            boxes = [2, 2, 2] * count
            self.assertEqual(empty_space(2 ** count - 1, boxes, [1, 1, 1, 2]), [0, 14], count)
            self.assertEqual(empty_space(2 ** count, boxes, [1, 1, 1, 2]), [-2], count)
            self.assertEqual(empty_space(2 ** count + 1, boxes, [1, 1, 1, 2]), [-2], count)

    def test_only_high_bits(self):
        for bit in range(3, 32):
            self.assertEqual(empty_space(1 << bit, BOXES, ITEMS), [-2], bit)

    def test_4294967295(self):
        self.assertEqual(empty_space(GREATEST, BOXES, ITEMS), [-2])
        self.assertEqual(empty_space(GREATEST, [2, 2, 2] * 7, ITEMS), [-2])

    def test_with_none(self):
        for items in ([], ITEMS):
            for stock in (1, 2, 128, GREATEST):
                self.assertEqual(empty_space(stock, [], items), [-2], stock)

    def test_without_items(self):
        self.assertEqual(empty_space(8, BOXES, []), [-2])


class OrderOfErrorsTest(unittest.TestCase):
    def test_bad_list_ahead_of_a_stock_that_does_not_exist(self):
        bad = (([1], ITEMS), ([1] * 24, ITEMS), ([0] + BOXES[1:], ITEMS), (BOXES[:-1] + [21], []),
               (BOXES, [1]), (BOXES, [1] * 36), (BOXES, [1, 1, 1, 0]), (BOXES, [1, 1, 1, 100]),
               ([], [21, 1, 1, 1]), ([1], [1]), ([GREATEST] * 40, [GREATEST] * 40))
        for boxes, items in bad:
            for stock in (0, 1, 7, 8, 9, 128, GREATEST):
                self.assertEqual(empty_space(stock, boxes, items), [-22], (stock, boxes, items))


if __name__ == "__main__":
    unittest.main()
