import itertools
import unittest

from boxeskept.stocks import box_for, total_cost
from reference import BOXES, GREATEST, box_of, made_up_sizes


class OrdinaryBoxesTest(unittest.TestCase):
    def test_example(self):
        self.assertEqual(box_for(7, BOXES, [1, 4, 2]), [2, 16])

    def test_each_box_of_the_example(self):
        self.assertEqual(box_for(7, BOXES, [2, 2, 1]), [0, 8])
        self.assertEqual(box_for(7, BOXES, [3, 2, 1]), [2, 16])
        self.assertEqual(box_for(7, BOXES, [3, 3, 1]), [1, 27])

    def test_smallest_volume_wherever_it_stands(self):
        sizes = ([2, 2, 2], [3, 3, 3], [4, 4, 4])
        for order in itertools.permutations(sizes):
            boxes = order[0] + order[1] + order[2]
            self.assertEqual(box_for(7, boxes, [2, 1, 2]), [order.index([2, 2, 2]), 8], boxes)
            self.assertEqual(box_for(7, boxes, [3, 1, 2]), [order.index([3, 3, 3]), 27], boxes)

    def test_smallest_volume_with_a_longer_edge(self):
        self.assertEqual(box_for(3, [3, 3, 3, 10, 2, 1], [2, 1, 1]), [1, 20])

    def test_the_volume_is_that_of_the_box(self):
        self.assertEqual(box_for(1, [7, 5, 3], [1, 1, 1]), [0, 105])
        self.assertEqual(box_for(1, [20, 20, 20], [1, 1, 1]), [0, 8000])
        self.assertEqual(box_for(1, [1, 1, 1], [1, 1, 1]), [0, 1])

    def test_with_7_boxes(self):
        boxes = [1, 1, 1, 2, 1, 1, 3, 1, 1, 4, 1, 1, 5, 1, 1, 6, 1, 1, 7, 1, 1]
        for box in range(7):
            self.assertEqual(box_for(127, boxes, [1, box + 1, 1]), [box, box + 1])
        self.assertEqual(box_for(127, boxes, [8, 1, 1]), [-33])

    def test_same_as_found_another_way(self):
        for boxes, size in made_up_sizes(51, 400):
            for stock in range(2 ** (len(boxes) // 3) + 1):
                self.assertEqual(
                    box_for(stock, boxes, size), box_of(stock, boxes, size), (stock, boxes, size))

    def test_the_volume_is_what_one_piece_costs(self):
        for boxes, size in made_up_sizes(52, 100):
            for stock in range(2 ** (len(boxes) // 3)):
                answer = box_for(stock, boxes, size)
                cost = 100000 if answer == [-33] else answer[1]
                self.assertEqual([cost], total_cost(stock, boxes, size + [1]))


class FittingTest(unittest.TestCase):
    def test_every_turn_of_box_and_item(self):
        turns = list(itertools.permutations([1, 2, 3]))
        for box in turns:
            for size in turns:
                self.assertEqual(box_for(1, list(box), list(size)), [0, 6], (box, size))

    def test_a_turned_item_goes_into_the_smaller_box(self):
        for size in itertools.permutations([5, 2, 1]):
            self.assertEqual(box_for(3, [5, 5, 5, 2, 1, 5], list(size)), [1, 10], size)

    def test_as_large_as_the_box(self):
        self.assertEqual(box_for(1, [4, 3, 2], [4, 3, 2]), [0, 24])
        self.assertEqual(box_for(1, [20, 20, 20], [20, 20, 20]), [0, 8000])

    def test_one_edge_just_equal(self):
        for size in ([4, 1, 1], [3, 3, 1], [2, 2, 2]):
            self.assertEqual(box_for(1, [4, 3, 2], size), [0, 24], size)

    def test_one_edge_too_long(self):
        for size in ([5, 3, 2], [4, 4, 2], [4, 3, 3], [5, 1, 1], [4, 4, 1], [3, 3, 3]):
            self.assertEqual(box_for(1, [4, 3, 2], size), [-33], size)

    def test_one_edge_too_long_for_the_smaller_box(self):
        for size in ([5, 3, 2], [4, 4, 2], [4, 3, 3]):
            self.assertEqual(box_for(3, [4, 3, 2, 5, 4, 3], size), [1, 60], size)

    def test_a_small_item_may_be_too_long(self):
        self.assertEqual(box_for(1, [19, 19, 19], [1, 1, 20]), [-33])
        self.assertEqual(box_for(3, [19, 19, 19, 20, 20, 20], [1, 1, 20]), [1, 8000])


class TiesTest(unittest.TestCase):
    def test_equal_boxes(self):
        self.assertEqual(box_for(127, [2, 2, 2] * 7, [1, 2, 1]), [0, 8])
        self.assertEqual(box_for(126, [2, 2, 2] * 7, [1, 2, 1]), [1, 8])
        self.assertEqual(box_for(96, [2, 2, 2] * 7, [1, 2, 1]), [5, 8])

    def test_equal_boxes_that_are_turned(self):
        boxes = [9, 9, 9, 3, 2, 1, 1, 2, 3, 2, 3, 1]
        self.assertEqual(box_for(15, boxes, [3, 1, 2]), [1, 6])
        self.assertEqual(box_for(12, boxes, [3, 1, 2]), [2, 6])

    def test_boxes_of_the_same_volume(self):
        boxes = [6, 1, 4, 4, 3, 2, 2, 3, 4, 12, 2, 1]
        self.assertEqual(box_for(15, boxes, [1, 1, 1]), [0, 24])
        self.assertEqual(box_for(14, boxes, [1, 1, 1]), [1, 24])
        self.assertEqual(box_for(12, boxes, [1, 1, 1]), [2, 24])
        self.assertEqual(box_for(15, boxes, [2, 2, 2]), [1, 24])
        self.assertEqual(box_for(15, boxes, [7, 1, 1]), [3, 24])

    def test_a_tie_behind_a_larger_box(self):
        self.assertEqual(box_for(15, [3, 3, 3, 4, 1, 1, 2, 2, 1, 1, 4, 1], [2, 1, 1]), [1, 4])


class OnlyStockedBoxesTest(unittest.TestCase):
    def test_each_stock_of_the_example(self):
        answers = [[-33], [0, 8], [1, 27], [0, 8], [2, 16], [0, 8], [2, 16], [0, 8]]
        for stock, answer in enumerate(answers):
            self.assertEqual(box_for(stock, BOXES, [2, 2, 1]), answer, stock)

    def test_bit_i_is_box_i(self):
        boxes = [1, 1, 1, 2, 1, 1, 3, 1, 1, 4, 1, 1, 5, 1, 1, 6, 1, 1, 7, 1, 1]
        for box in range(7):
            self.assertEqual(box_for(1 << box, boxes, [1, 1, 1]), [box, box + 1])

    def test_fits_only_into_a_box_that_is_not_stocked(self):
        self.assertEqual(box_for(3, [2, 2, 2, 3, 3, 3], [3, 1, 1]), [1, 27])
        self.assertEqual(box_for(1, [2, 2, 2, 3, 3, 3], [3, 1, 1]), [-33])

    def test_nothing_stocked(self):
        self.assertEqual(box_for(0, BOXES, [1, 1, 1]), [-33])
        self.assertEqual(box_for(0, [20, 20, 20] * 7, [1, 1, 1]), [-33])


class RefusedListsTest(unittest.TestCase):
    """Each list is refused for stocks that exist and others, for items that fit and others."""

    def assert_refused(self, boxes, size):
        for stock in (0, 1, 7, 8, 128, GREATEST):
            self.assertEqual(box_for(stock, boxes, size), [-22], (stock, boxes, size))

    def assert_boxes_refused(self, boxes):
        for size in ([1, 1, 1], [20, 20, 20]):
            self.assert_refused(boxes, size)

    def assert_size_refused(self, size):
        for boxes in ([], [1, 1, 1], BOXES, [20] * 21):
            self.assert_refused(boxes, size)

    def assert_taken(self, boxes, size):
        self.assertNotIn(box_for(0, boxes, size), ([-22], [-2]), (boxes, size))

    def test_every_length_of_boxes(self):
        for length in range(41):
            if length in (0, 3, 6, 9, 12, 15, 18, 21):
                self.assert_taken([1] * length, [1, 1, 1])
            else:
                self.assert_boxes_refused([1] * length)

    def test_every_length_of_size(self):
        for length in range(41):
            if length == 3:
                self.assert_taken(BOXES, [1] * length)
            else:
                self.assert_size_refused([1] * length)

    def test_8_boxes(self):
        self.assertEqual(box_for(127, [2, 2, 2] * 7, [1, 1, 1]), [0, 8])
        self.assert_boxes_refused([2, 2, 2] * 8)

    def test_edge_of_a_box(self):
        for place in range(21):
            boxes = [5] * 21
            for edge in (1, 2, 19, 20):
                boxes[place] = edge
                self.assert_taken(boxes, [1, 1, 1])
            for edge in (0, 21, 22, 99, GREATEST):
                boxes[place] = edge
                self.assert_boxes_refused(boxes)

    def test_edge_of_the_size(self):
        for place in range(3):
            size = [5] * 3
            for edge in (1, 2, 19, 20):
                size[place] = edge
                self.assert_taken(BOXES, size)
                self.assertEqual(box_for(1, [20, 20, 20], size), [0, 8000])
            for edge in (0, 21, 22, 99, GREATEST):
                size[place] = edge
                self.assert_size_refused(size)

    def test_boxes_and_size_alike(self):
        for boxes in ([1], [1] * 24, [0, 1, 1], [1, 21, 1], [GREATEST] * 3, [1] * 40):
            for size in ([], [1], [1] * 6, [0, 1, 1], [1, 1, 21], [GREATEST] * 3, [1] * 40):
                self.assert_refused(boxes, size)


class StockThatDoesNotExistTest(unittest.TestCase):
    def test_greatest_that_exists_and_first_that_does_not(self):
        for count in range(1, 8):
            boxes = [2, 2, 2] * count
            self.assertEqual(box_for(2 ** count - 1, boxes, [1, 1, 1]), [0, 8], count)
            self.assertEqual(box_for(2 ** count, boxes, [1, 1, 1]), [-2], count)
            self.assertEqual(box_for(2 ** count + 1, boxes, [1, 1, 1]), [-2], count)

    def test_only_high_bits(self):
        for bit in range(3, 32):
            self.assertEqual(box_for(1 << bit, BOXES, [1, 1, 1]), [-2], bit)

    def test_4294967295(self):
        self.assertEqual(box_for(GREATEST, BOXES, [1, 1, 1]), [-2])
        self.assertEqual(box_for(GREATEST, [2, 2, 2] * 7, [1, 1, 1]), [-2])

    def test_ahead_of_an_item_that_fits_nowhere(self):
        self.assertEqual(box_for(7, BOXES, [20, 20, 20]), [-33])
        for stock in (8, 9, 15, 128, GREATEST):
            self.assertEqual(box_for(stock, BOXES, [20, 20, 20]), [-2], stock)

    def test_no_boxes(self):
        for size in ([1, 1, 1], [20, 20, 20]):
            self.assertEqual(box_for(0, [], size), [-33])
            for stock in (1, 2, 128, GREATEST):
                self.assertEqual(box_for(stock, [], size), [-2], stock)


if __name__ == "__main__":
    unittest.main()
