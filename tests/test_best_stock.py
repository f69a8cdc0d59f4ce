import unittest

from boxeskept.stocks import best_stock, total_cost
from reference import BOXES, GREATEST, ITEMS, all_costs, best_of, made_up_inputs


class OrdinaryChoicesTest(unittest.TestCase):
    def test_example(self):
        self.assertEqual(best_stock(2, BOXES, ITEMS), [6, 235])

    def test_each_limit_of_the_example(self):
        answers = [[0, 1400000], [4, 100208], [6, 235], [7, 155]]
        for limit, answer in enumerate(answers):
            self.assertEqual(best_stock(limit, BOXES, ITEMS), answer, limit)

    def test_7_boxes_and_8_items(self):
        boxes = [1, 1, 1, 2, 1, 1, 3, 1, 1, 4, 1, 1, 5, 1, 1, 6, 1, 1, 20, 20, 20]
        items = [1, 1, 1, 9, 2, 1, 1, 8, 1, 3, 1, 7, 4, 1, 1, 6, 1, 1, 5, 5, 6, 1, 1, 4,
                 1, 7, 1, 3, 2, 2, 1, 2]
        costs = all_costs(boxes, items)
        self.assertEqual(best_stock(0, boxes, items), [0, 4400000])
        self.assertEqual(best_stock(1, boxes, items), [64, 44 * 8000])
        self.assertEqual(best_stock(2, boxes, items), [96, 39 * 6 + 5 * 8000])
        self.assertEqual(
            best_stock(7, boxes, items), [127, 9 + 16 + 21 + 24 + 25 + 24 + 5 * 8000])
        for limit in range(8):
            self.assertEqual(best_stock(limit, boxes, items), best_of(limit, costs), limit)

    def test_the_best_of_two_need_not_hold_the_best_of_one(self):
        boxes = [3, 2, 2, 2, 2, 2, 3, 2, 1]
        items = [2, 2, 2, 2, 3, 2, 1, 2, 2, 2, 1, 2]
        self.assertEqual(best_stock(1, boxes, items), [1, 72])
        self.assertEqual(best_stock(2, boxes, items), [6, 16 + 12 + 12])


class LimitsTest(unittest.TestCase):
    def test_limit_0(self):
        self.assertEqual(best_stock(0, BOXES, ITEMS), [0, 1400000])
        self.assertEqual(best_stock(0, BOXES, []), [0, 0])
        self.assertEqual(best_stock(0, [], []), [0, 0])

    def test_the_number_of_boxes_and_above(self):
        for limit in (3, 4, 5, 7, 8, 20, 128, GREATEST):
            self.assertEqual(best_stock(limit, BOXES, ITEMS), [7, 155], limit)

    def test_with_7_boxes(self):
        boxes = [1, 1, 1, 2, 1, 1, 3, 1, 1, 4, 1, 1, 5, 1, 1, 6, 1, 1, 7, 1, 1]
        items = [1, 1, 1, 1, 2, 1, 1, 1, 3, 1, 1, 1, 4, 1, 1, 1, 5, 1, 1, 1, 6, 1, 1, 1, 7, 1, 1, 1]
        # Each of the boxes 0 to 5 can be spared for 1 more; without box 5 the number is smallest.
        self.assertEqual(best_stock(6, boxes, items), [95, 29])
        for limit in (7, 8, GREATEST):
            self.assertEqual(best_stock(limit, boxes, items), [127, 28], limit)


class NothingThereTest(unittest.TestCase):
    def test_no_items(self):
        for limit in (0, 1, 2, 3, 4, GREATEST):
            self.assertEqual(best_stock(limit, BOXES, []), [0, 0], limit)

    def test_no_boxes(self):
        for limit in (0, 1, 7, GREATEST):
            self.assertEqual(best_stock(limit, [], ITEMS), [0, 1400000], limit)

    def test_no_boxes_and_no_items(self):
        for limit in (0, 1, GREATEST):
            self.assertEqual(best_stock(limit, [], []), [0, 0], limit)

    def test_no_item_fits_anywhere(self):
        for limit in (0, 1, 2, GREATEST):
            self.assertEqual(best_stock(limit, [1, 1, 1, 2, 2, 2], [3, 1, 1, 2]), [0, 200000])


class TiesTest(unittest.TestCase):
    def test_fewer_boxes_first(self):
        self.assertEqual(best_stock(3, [1, 1, 1, 2, 2, 2, 3, 3, 3], [2, 2, 2, 1]), [2, 8])

    def test_fewer_boxes_though_the_number_is_greater(self):
        # Each item goes into a box of its own, and both go into box 2; every box has volume 8.
        boxes = [8, 1, 1, 2, 2, 2, 4, 2, 1]
        items = [4, 1, 1, 1, 2, 2, 1, 1]
        self.assertEqual(total_cost(3, boxes, items), [16])
        self.assertEqual(total_cost(4, boxes, items), [16])
        for limit in (1, 2, 3, GREATEST):
            self.assertEqual(best_stock(limit, boxes, items), [4, 16], limit)

    def test_smallest_number_among_equal_boxes(self):
        boxes = [1, 1, 1, 2, 2, 2, 2, 2, 2, 2, 2, 2]
        for limit in (1, 2, 3, 4):
            self.assertEqual(best_stock(limit, boxes, [2, 2, 2, 3]), [2, 24], limit)

    def test_smallest_number_among_boxes_of_the_same_volume(self):
        boxes = [6, 1, 4, 4, 3, 2, 2, 3, 4, 12, 2, 1]
        self.assertEqual(best_stock(1, boxes, [1, 1, 1, 3]), [1, 72])
        self.assertEqual(best_stock(4, boxes, [2, 1, 2, 3]), [1, 72])
        self.assertEqual(best_stock(4, boxes, [2, 2, 2, 3]), [2, 72])
        self.assertEqual(best_stock(4, boxes, [7, 1, 1, 3]), [8, 72])

    def test_smallest_number_of_two_boxes_each(self):
        boxes = [2, 1, 1, 3, 1, 1, 3, 1, 1, 2, 1, 1]
        items = [2, 1, 1, 1, 3, 1, 1, 1]
        # Stocks 3, 5, 10 and 12 cost the same.
        self.assertEqual(best_stock(2, boxes, items), [3, 5])
        self.assertEqual(best_stock(4, boxes, items), [3, 5])

    def test_all_boxes_equal(self):
        for limit in range(1, 8):
            self.assertEqual(best_stock(limit, [2, 2, 2] * 7, [1, 1, 1, 1]), [1, 8], limit)

    def test_made_up_ties(self):
        ties = 0
        for boxes, items in made_up_inputs(21, 300):
            costs = all_costs(boxes, items)
            for limit in range(len(boxes) // 3 + 2):
                best = best_of(limit, costs)
                ties += costs.count(best[1]) > 1
                self.assertEqual(best_stock(limit, boxes, items), best, (limit, boxes, items))
        self.assertGreater(ties, 100)


class OptimalityTest(unittest.TestCase):
    def test_no_stock_within_the_limit_costs_less(self):
        for boxes, items in made_up_inputs(22, 100):
            count = len(boxes) // 3
            costs = [total_cost(stock, boxes, items)[0] for stock in range(2 ** count)]
            for limit in range(count + 2):
                best, cost = best_stock(limit, boxes, items)
                self.assertEqual(costs[best], cost)
                self.assertLessEqual(bin(best).count("1"), limit)
                for stock, other in enumerate(costs):
                    if bin(stock).count("1") <= limit:
                        self.assertLessEqual(cost, other, (limit, stock, boxes, items))

    def test_a_greater_limit_never_costs_more(self):
        for boxes, items in made_up_inputs(23, 100):
            costs = [best_stock(limit, boxes, items)[1] for limit in range(9)]
            self.assertEqual(costs, sorted(costs, reverse=True), (boxes, items))


if __name__ == "__main__":
    unittest.main()
