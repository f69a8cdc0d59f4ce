import unittest

from boxeskept.stocks import best_stock, greedy_stock, total_cost
from reference import BOXES, GREATEST, ITEMS, all_costs, greedy_of, made_up_inputs

# The best of one box (12) is none of the best two (8 and 6).
MISLEADING_BOXES = [3, 2, 2, 2, 2, 2, 3, 2, 1]
MISLEADING_ITEMS = [2, 2, 2, 2, 3, 2, 1, 2, 2, 2, 1, 2]

# Box 0 takes the middle two items; boxes 1 and 2 take two each, and so all four together.
CROSSING_BOXES = [9, 9, 2, 20, 9, 1, 8, 8, 8]
CROSSING_ITEMS = [20, 1, 1, 1, 9, 9, 1, 1, 8, 8, 2, 1, 8, 8, 8, 1]


class OrdinaryChoicesTest(unittest.TestCase):
    def test_example(self):
        self.assertEqual(greedy_stock(2, BOXES, ITEMS), [6, 235])

    def test_each_limit_of_the_example(self):
        answers = [[0, 1400000], [4, 100208], [6, 235], [7, 155]]
        for limit, answer in enumerate(answers):
            self.assertEqual(greedy_stock(limit, BOXES, ITEMS), answer, limit)

    def test_what_is_stocked_stays_stocked_though_it_costs_more(self):
        answers = [[0, 600000], [1, 72], [5, 48], [7, 40]]
        for limit, answer in enumerate(answers):
            self.assertEqual(greedy_stock(limit, MISLEADING_BOXES, MISLEADING_ITEMS), answer)
        self.assertEqual(best_stock(2, MISLEADING_BOXES, MISLEADING_ITEMS), [6, 40])

    def test_greedy_costs_far_more_than_the_best(self):
        # Each box takes two of the four items at first: the first one is added.
        self.assertEqual(greedy_stock(1, CROSSING_BOXES, CROSSING_ITEMS), [1, 200324])
        self.assertEqual(greedy_stock(2, CROSSING_BOXES, CROSSING_ITEMS), [3, 100504])
        self.assertEqual(best_stock(2, CROSSING_BOXES, CROSSING_ITEMS), [6, 1384])

    def test_a_box_counts_for_what_it_saves_beside_the_others(self):
        # Alone box 1 saves almost as much as box 0; beside it, box 2 saves more.
        boxes = [5, 5, 5, 5, 5, 4, 9, 1, 1]
        items = [5, 5, 5, 1, 5, 5, 4, 50, 9, 1, 1, 1]
        self.assertEqual(greedy_stock(1, boxes, items), [1, 51 * 125 + 100000])
        self.assertEqual(greedy_stock(2, boxes, items), [5, 51 * 125 + 9])
        self.assertEqual(greedy_stock(3, boxes, items), [7, 125 + 50 * 100 + 9])

    def test_quantities_tell_which_box_saves_most(self):
        boxes = [3, 1, 1, 2, 2, 1]
        self.assertEqual(greedy_stock(1, boxes, [3, 1, 1, 2, 2, 2, 1, 3]), [2, 200012])
        self.assertEqual(greedy_stock(1, boxes, [3, 1, 1, 3, 2, 2, 1, 2]), [1, 200009])

    def test_7_boxes_and_8_items(self):
        boxes = [1, 1, 1, 2, 1, 1, 3, 1, 1, 4, 1, 1, 5, 1, 1, 6, 1, 1, 20, 20, 20]
        items = [1, 1, 1, 9, 2, 1, 1, 8, 1, 3, 1, 7, 4, 1, 1, 6, 1, 1, 5, 5, 6, 1, 1, 4,
                 1, 7, 1, 3, 2, 2, 1, 2]
        costs = all_costs(boxes, items)
        self.assertEqual(greedy_stock(1, boxes, items), [64, 44 * 8000])
        self.assertEqual(greedy_stock(2, boxes, items), [96, 39 * 6 + 5 * 8000])
        for limit in range(9):
            self.assertEqual(greedy_stock(limit, boxes, items), greedy_of(limit, costs), limit)

    def test_same_as_found_another_way(self):
        for boxes, items in made_up_inputs(41, 300):
            costs = all_costs(boxes, items)
            for limit in range(len(boxes) // 3 + 2):
                self.assertEqual(
                    greedy_stock(limit, boxes, items), greedy_of(limit, costs),
                    (limit, boxes, items))


class LimitsTest(unittest.TestCase):
    def test_limit_0(self):
        self.assertEqual(greedy_stock(0, BOXES, ITEMS), [0, 1400000])
        self.assertEqual(greedy_stock(0, [1, 1, 1], [1, 1, 1, 1]), [0, 100000])
        self.assertEqual(greedy_stock(0, BOXES, []), [0, 0])
        self.assertEqual(greedy_stock(0, [], ITEMS), [0, 1400000])

    def test_limit_1(self):
        self.assertEqual(greedy_stock(1, BOXES, ITEMS), [4, 100208])
        self.assertEqual(greedy_stock(1, [1, 1, 1], [1, 1, 1, 1]), [1, 1])
        # A single box is chosen alike, in a tie too: the smallest index is the smallest number.
        for boxes, items in made_up_inputs(42, 100):
            self.assertEqual(greedy_stock(1, boxes, items), best_stock(1, boxes, items))

    def test_the_number_of_boxes_and_above(self):
        for limit in (3, 4, 5, 7, 8, 20, 128, GREATEST):
            self.assertEqual(greedy_stock(limit, BOXES, ITEMS), [7, 155], limit)

    def test_with_7_boxes(self):
        boxes = [1, 1, 1, 2, 1, 1, 3, 1, 1, 4, 1, 1, 5, 1, 1, 6, 1, 1, 7, 1, 1]
        items = [1, 1, 1, 1, 2, 1, 1, 1, 3, 1, 1, 1, 4, 1, 1, 1, 5, 1, 1, 1, 6, 1, 1, 1, 7, 1, 1, 1]
        # After box 6, box 3 saves 4 * 3 and box 2 as much by 3 * 4: the smaller index it is.
        self.assertEqual(greedy_stock(1, boxes, items), [64, 49])
        self.assertEqual(greedy_stock(2, boxes, items), [64 + 4, 37])
        self.assertEqual(greedy_stock(6, boxes, items)[1], 29)
        for limit in (7, 8, GREATEST):
            self.assertEqual(greedy_stock(limit, boxes, items), [127, 28], limit)

    def test_never_more_boxes_than_the_limit(self):
        for boxes, items in made_up_inputs(43, 150):
            for limit in range(len(boxes) // 3 + 2):
                stock = greedy_stock(limit, boxes, items)[0]
                self.assertLessEqual(bin(stock).count("1"), limit, (limit, boxes, items))
                self.assertLess(stock, 2 ** (len(boxes) // 3))

    def test_above_the_number_of_boxes_as_at_it(self):
        for boxes, items in made_up_inputs(44, 100):
            count = len(boxes) // 3
            at_it = greedy_stock(count, boxes, items)
            for limit in (count + 1, count + 7, 4096, GREATEST):
                self.assertEqual(greedy_stock(limit, boxes, items), at_it, (limit, boxes, items))


class StepsTest(unittest.TestCase):
    def assert_step(self, stock, next_stock, boxes, items):
        """One more in the limit: the box of the greatest saving is added, or none saves."""
        costs = {}
        for box in range(len(boxes) // 3):
            if not stock >> box & 1:
                costs[box] = total_cost(stock | 1 << box, boxes, items)[0]
        lowest = min(costs.values(), default=GREATEST)
        if lowest < total_cost(stock, boxes, items)[0]:
            first = min(box for box, cost in costs.items() if cost == lowest)
            self.assertEqual(next_stock, stock | 1 << first, (stock, boxes, items))
        else:
            self.assertEqual(next_stock, stock, (boxes, items))

    def test_each_step_adds_the_box_that_reduces_the_cost_most(self):
        for boxes, items in made_up_inputs(45, 150):
            stock, cost = greedy_stock(0, boxes, items)
            self.assertEqual(stock, 0)
            for limit in range(1, len(boxes) // 3 + 2):
                next_stock, cost = greedy_stock(limit, boxes, items)
                self.assert_step(stock, next_stock, boxes, items)
                stock = next_stock

    def test_the_cost_is_the_total_cost_of_the_stock(self):
        calls = [(BOXES, ITEMS), (MISLEADING_BOXES, MISLEADING_ITEMS),
                 (CROSSING_BOXES, CROSSING_ITEMS), (BOXES, []), ([], ITEMS), ([], [])]
        for boxes, items in calls + list(made_up_inputs(46, 150)):
            for limit in (0, 1, 2, 3, 5, 7, 8, GREATEST):
                stock, cost = greedy_stock(limit, boxes, items)
                self.assertEqual([cost], total_cost(stock, boxes, items), (limit, boxes, items))


class TiesTest(unittest.TestCase):
    def test_equal_boxes(self):
        for limit in range(1, 8):
            self.assertEqual(greedy_stock(limit, [2, 2, 2] * 7, [1, 1, 1, 1]), [1, 8], limit)

    def test_equal_boxes_behind_another(self):
        boxes = [1, 1, 1, 2, 2, 2, 2, 2, 2, 2, 2, 2]
        for limit in (1, 2, 3, 4, GREATEST):
            self.assertEqual(greedy_stock(limit, boxes, [2, 2, 2, 3]), [2, 24], limit)

    def test_equal_boxes_that_are_turned(self):
        boxes = [9, 9, 9, 3, 2, 1, 1, 2, 3, 2, 3, 1]
        for limit in (1, 2, 3, 4, GREATEST):
            self.assertEqual(greedy_stock(limit, boxes, [1, 3, 2, 3]), [2, 18], limit)

    def test_equal_boxes_in_a_later_step(self):
        boxes = [4, 4, 4, 2, 1, 1, 2, 1, 1, 4, 4, 4]
        items = [4, 4, 4, 1, 2, 1, 1, 1]
        self.assertEqual(greedy_stock(1, boxes, items), [1, 128])
        for limit in (2, 3, 4, GREATEST):
            self.assertEqual(greedy_stock(limit, boxes, items), [1 + 2, 66], limit)

    def test_boxes_of_the_same_volume(self):
        boxes = [6, 1, 4, 4, 3, 2, 2, 3, 4, 12, 2, 1]
        for limit in (1, 2, 4):
            self.assertEqual(greedy_stock(limit, boxes, [1, 1, 1, 3]), [1, 72])
            self.assertEqual(greedy_stock(limit, boxes, [2, 2, 2, 3]), [2, 72])
            self.assertEqual(greedy_stock(limit, boxes, [7, 1, 1, 3]), [8, 72])

    def test_boxes_for_other_items_that_save_as_much(self):
        boxes = [3, 3, 3, 8, 1, 1, 4, 2, 1, 2, 2, 2]
        items = [8, 1, 1, 1, 4, 2, 1, 1, 2, 2, 2, 1]
        # Box 3 saves as much as boxes 1 and 2; box 0 would save less.
        self.assertEqual(greedy_stock(1, boxes, items), [2, 200008])
        self.assertEqual(greedy_stock(2, boxes, items), [2 + 4, 100016])
        self.assertEqual(greedy_stock(3, boxes, items), [2 + 4 + 8, 24])
        self.assertEqual(greedy_stock(4, boxes, items), [2 + 4 + 8, 24])

    def test_a_greater_index_that_saves_more_goes_first(self):
        self.assertEqual(greedy_stock(1, [3, 3, 3, 2, 2, 2], [2, 2, 2, 1]), [2, 8])
        self.assertEqual(greedy_stock(1, [2, 2, 2, 3, 3, 3], [2, 2, 2, 1]), [1, 8])

    def test_made_up_ties(self):
        ties = 0
        for boxes, items in made_up_inputs(50, 300):
            costs = all_costs(boxes, items)
            first = greedy_of(1, costs)
            single = [costs[2 ** box] for box in range(len(boxes) // 3)]
            if first[0] > 0 and single.count(first[1]) > 1:
                ties += 1
                self.assertEqual(greedy_stock(1, boxes, items), first, (boxes, items))
        self.assertGreater(ties, 30)


class StopTest(unittest.TestCase):
    def test_the_limit_is_not_reached(self):
        for limit in (1, 2, 3, GREATEST):
            self.assertEqual(greedy_stock(limit, [2, 2, 2, 3, 3, 3, 4, 4, 4], [2, 2, 2, 1]), [1, 8])

    def test_after_two_of_three(self):
        boxes = [2, 2, 2, 3, 3, 3, 4, 4, 4]
        items = [2, 2, 2, 1, 4, 4, 4, 1]
        self.assertEqual(greedy_stock(1, boxes, items), [4, 128])
        for limit in (2, 3, 4, GREATEST):
            self.assertEqual(greedy_stock(limit, boxes, items), [1 + 4, 72], limit)

    def test_a_saving_of_1_is_a_saving(self):
        boxes = [3, 3, 1, 4, 2, 1]
        items = [3, 3, 1, 1, 1, 2, 1, 1]
        self.assertEqual(greedy_stock(1, boxes, items), [1, 18])
        self.assertEqual(greedy_stock(2, boxes, items), [3, 17])

    def test_no_box_saves_anything(self):
        for limit in (1, 2, 3, GREATEST):
            self.assertEqual(greedy_stock(limit, [1, 1, 1, 2, 2, 2], [3, 1, 1, 2]), [0, 200000])


class NothingThereTest(unittest.TestCase):
    def test_no_items(self):
        for limit in (0, 1, 2, 3, 4, GREATEST):
            self.assertEqual(greedy_stock(limit, BOXES, []), [0, 0], limit)

    def test_no_boxes(self):
        for limit in (0, 1, 7, GREATEST):
            self.assertEqual(greedy_stock(limit, [], ITEMS), [0, 1400000], limit)

    def test_no_boxes_and_no_items(self):
        for limit in (0, 1, GREATEST):
            self.assertEqual(greedy_stock(limit, [], []), [0, 0], limit)

    def test_an_item_that_fits_into_no_box(self):
        self.assertEqual(greedy_stock(2, [1, 1, 1, 2, 2, 2], [3, 1, 1, 2, 1, 2, 1, 5]), [2, 200040])
        self.assertEqual(
            greedy_stock(2, [2, 2, 2, 1, 1, 1], [2, 1, 1, 1, 20, 1, 1, 99, 1, 1, 1, 1]),
            [3, 9900009])

    def test_greatest_cost(self):
        self.assertEqual(greedy_stock(7, [1] * 21, [2, 1, 1, 99] * 8), [0, 79200000])


class AgainstTheBestTest(unittest.TestCase):
    def inputs(self):
        yield BOXES, ITEMS
        # Made-up inputs seldom mislead: these do for many quantities, with other boxes beside them.
        misleading = (MISLEADING_BOXES, MISLEADING_ITEMS), (CROSSING_BOXES, CROSSING_ITEMS)
        for boxes, items in misleading:
            for quantity in range(1, 100, 14):
                many = [quantity if place % 4 == 3 else edge for place, edge in enumerate(items)]
                for more in ([], [1, 1, 1], [20, 20, 20], boxes):
                    yield boxes + more, many
                    yield more + boxes, many
        yield from made_up_inputs(47, 300)

    def calls(self):
        for boxes, items in self.inputs():
            for limit in range(len(boxes) // 3 + 1):
                greedy = greedy_stock(limit, boxes, items)[1]
                best = best_stock(limit, boxes, items)[1]
                yield limit, boxes, items, greedy, best

    def test_costs_at_least_as_much_as_the_best(self):
        dearer = 0
        for limit, boxes, items, greedy, best in self.calls():
            self.assertGreaterEqual(greedy, best, (limit, boxes, items))
            dearer += greedy > best
        self.assertGreater(dearer, 100)

    def test_saves_at_least_half_of_what_the_best_saves(self):
        for limit, boxes, items, greedy, best in self.calls():
            empty = total_cost(0, boxes, items)[0]
            self.assertGreaterEqual(2 * (empty - greedy), empty - best, (limit, boxes, items))

    def test_a_greater_limit_never_costs_more(self):
        for boxes, items in made_up_inputs(48, 100):
            costs = [greedy_stock(limit, boxes, items)[1] for limit in range(9)]
            self.assertEqual(costs, sorted(costs, reverse=True), (boxes, items))

    def test_without_a_limit_as_cheap_as_the_best(self):
        for boxes, items in made_up_inputs(49, 100):
            every_box = 2 ** (len(boxes) // 3) - 1
            cost = greedy_stock(GREATEST, boxes, items)[1]
            self.assertEqual([cost], total_cost(every_box, boxes, items), (boxes, items))


if __name__ == "__main__":
    unittest.main()
