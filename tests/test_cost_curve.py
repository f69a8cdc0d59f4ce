import unittest

from boxeskept.stocks import best_stock, cost_curve, saving, total_cost
from reference import BOXES, GREATEST, ITEMS, all_costs, curve_of, made_up_inputs


class OrdinaryCurvesTest(unittest.TestCase):
    def test_example(self):
        self.assertEqual(cost_curve(BOXES, ITEMS), [4, 1400000, 100208, 235, 155])

    def test_one_box(self):
        self.assertEqual(cost_curve([2, 3, 1], [3, 1, 2, 5]), [2, 500000, 30])
        self.assertEqual(cost_curve([2, 3, 1], [3, 2, 2, 5]), [2, 500000, 500000])

    def test_each_number_of_boxes(self):
        for count in range(8):
            curve = cost_curve([2, 1, 1] * count, [1, 2, 1, 3])
            self.assertEqual(curve, [count + 1, 300000] + [6] * count, count)

    def test_7_boxes_and_8_items(self):
        boxes = [7, 1, 1, 6, 1, 1, 5, 1, 1, 4, 1, 1, 3, 1, 1, 2, 1, 1, 1, 1, 1]
        items = [1, 1, 1, 1, 2, 1, 1, 1, 3, 1, 1, 1, 4, 1, 1, 1, 5, 1, 1, 1, 6, 1, 1, 1,
                 7, 1, 1, 1, 20, 1, 1, 1]
        costs = [800000, 100049, 100037, 100033, 100031, 100030, 100029, 100028]
        self.assertEqual(cost_curve(boxes, items), [8] + costs)

    def test_the_best_of_two_need_not_hold_the_best_of_one(self):
        # A curve that keeps what was stocked for the limit before would have 48 for two boxes.
        boxes = [3, 2, 2, 2, 2, 2, 3, 2, 1]
        items = [2, 2, 2, 2, 3, 2, 1, 2, 2, 2, 1, 2]
        self.assertEqual(cost_curve(boxes, items), [4, 600000, 72, 40, 40])

    def test_a_box_that_saves_nothing_draws_level(self):
        self.assertEqual(
            cost_curve([2, 2, 2, 3, 3, 3, 2, 2, 2], [2, 2, 2, 1]), [4, 100000, 8, 8, 8])

    def test_same_as_found_another_way(self):
        for boxes, items in made_up_inputs(71, 300):
            curve = curve_of(all_costs(boxes, items))
            self.assertEqual(cost_curve(boxes, items), curve, (boxes, items))


class NothingThereTest(unittest.TestCase):
    def test_no_boxes(self):
        self.assertEqual(cost_curve([], ITEMS), [1, 1400000])
        self.assertEqual(cost_curve([], [20, 20, 20, 99]), [1, 9900000])

    def test_no_boxes_and_no_items(self):
        self.assertEqual(cost_curve([], []), [1, 0])

    def test_no_items(self):
        self.assertEqual(cost_curve(BOXES, []), [4, 0, 0, 0, 0])
        self.assertEqual(cost_curve([1] * 21, []), [8] + [0] * 8)

    def test_no_item_fits_anywhere(self):
        self.assertEqual(
            cost_curve([1, 1, 1, 2, 2, 2], [3, 1, 1, 2]), [3, 200000, 200000, 200000])

    def test_greatest_costs(self):
        self.assertEqual(cost_curve([1] * 21, [2, 1, 1, 99] * 8), [8] + [79200000] * 8)


class AgainstTheOtherOperationsTest(unittest.TestCase):
    def inputs(self):
        yield BOXES, ITEMS
        yield [], ITEMS
        yield BOXES, []
        yield [], []
        yield from made_up_inputs(72, 100)

    def test_the_count_and_best_stocks_cost_for_each_limit(self):
        for boxes, items in self.inputs():
            count = len(boxes) // 3
            curve = cost_curve(boxes, items)
            self.assertEqual(curve[0], count + 1)
            self.assertEqual(len(curve), count + 2)
            for limit in range(count + 1):
                cost = best_stock(limit, boxes, items)[1]
                self.assertEqual(curve[1 + limit], cost, (limit, boxes, items))

    def test_from_the_empty_stock_to_the_full_one(self):
        for boxes, items in self.inputs():
            curve = cost_curve(boxes, items)
            every_box = 2 ** (len(boxes) // 3) - 1
            self.assertEqual(curve[1:2], total_cost(0, boxes, items))
            self.assertEqual(curve[-1:], total_cost(every_box, boxes, items))

    def test_never_rises(self):
        for boxes, items in self.inputs():
            costs = cost_curve(boxes, items)[1:]
            self.assertEqual(costs, sorted(costs, reverse=True), (boxes, items))

    def test_the_first_step_is_the_greatest_saving_of_one_box(self):
        for boxes, items in self.inputs():
            if boxes:
                curve = cost_curve(boxes, items)
                savings = [saving(0, box, boxes, items)[0] for box in range(len(boxes) // 3)]
                self.assertEqual(curve[1] - curve[2], max(savings), (boxes, items))


class RefusedListsTest(unittest.TestCase):
    def test_bad_boxes(self):
        for boxes in ([1], [1] * 20, [1] * 24, BOXES + [1], [0] + BOXES[1:], BOXES[:-1] + [21],
                      [GREATEST] * 3, [1] * 40):
            for items in ([], ITEMS, [1]):
                self.assertEqual(cost_curve(boxes, items), [-22], (boxes, items))

    def test_bad_items(self):
        for items in ([1], [1] * 33, [1] * 36, ITEMS + [1], [0] + ITEMS[1:], ITEMS[:-1] + [0],
                      ITEMS[:-1] + [100], [21] + ITEMS[1:], [GREATEST] * 4, [1] * 40):
            for boxes in ([], BOXES, [1]):
                self.assertEqual(cost_curve(boxes, items), [-22], (boxes, items))


if __name__ == "__main__":
    unittest.main()
