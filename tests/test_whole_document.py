"""What the document says of all operations together: its interface, examples and requirements."""

import inspect
import itertools
import unittest

from boxeskept import stocks
from boxeskept.stocks import (
    best_stock, box_for, cost_curve, empty_space, fits, greedy_stock, saving, total_cost,
)
from reference import GREATEST, made_up_inputs


class InterfaceTest(unittest.TestCase):
    def test_each_name_and_its_arguments(self):
        interface = {
            "total_cost": ["stock", "boxes", "items"],
            "best_stock": ["limit", "boxes", "items"],
            "greedy_stock": ["limit", "boxes", "items"],
            "box_for": ["stock", "boxes", "size"],
            "saving": ["stock", "box", "boxes", "items"],
            "cost_curve": ["boxes", "items"],
            "fits": ["item_size", "box_size"],
            "empty_space": ["stock", "boxes", "items"],
        }
        for name, arguments in interface.items():
            operation = getattr(stocks, name)
            self.assertTrue(inspect.isfunction(operation), name)
            self.assertEqual(operation.__module__, "boxeskept.stocks")
            parameters = inspect.signature(operation).parameters
            self.assertEqual(list(parameters), arguments, name)
            for parameter in parameters.values():
                self.assertIs(parameter.kind, parameter.POSITIONAL_OR_KEYWORD, name)
                self.assertIs(parameter.default, parameter.empty, name)


class ExamplesTest(unittest.TestCase):
    def test_total_cost(self):
        self.assertEqual(
            total_cost(7, [2, 2, 2, 3, 3, 3, 4, 2, 2], [2, 2, 1, 10, 4, 2, 1, 3, 3, 3, 2, 1]),
            [155])

    def test_best_stock(self):
        self.assertEqual(
            best_stock(2, [2, 2, 2, 3, 3, 3, 4, 2, 2], [2, 2, 1, 10, 4, 2, 1, 3, 3, 3, 2, 1]),
            [6, 235])

    def test_greedy_stock(self):
        self.assertEqual(
            greedy_stock(2, [2, 2, 2, 3, 3, 3, 4, 2, 2], [2, 2, 1, 10, 4, 2, 1, 3, 3, 3, 2, 1]),
            [6, 235])

    def test_box_for(self):
        self.assertEqual(box_for(7, [2, 2, 2, 3, 3, 3, 4, 2, 2], [1, 4, 2]), [2, 16])

    def test_saving(self):
        self.assertEqual(
            saving(6, 0, [2, 2, 2, 3, 3, 3, 4, 2, 2], [2, 2, 1, 10, 4, 2, 1, 3, 3, 3, 2, 1]),
            [80])

    def test_cost_curve(self):
        self.assertEqual(
            cost_curve([2, 2, 2, 3, 3, 3, 4, 2, 2], [2, 2, 1, 10, 4, 2, 1, 3, 3, 3, 2, 1]),
            [4, 1400000, 100208, 235, 155])

    def test_empty_space(self):
        self.assertEqual(
            empty_space(7, [2, 2, 2, 3, 3, 3, 4, 2, 2], [2, 2, 1, 10, 4, 2, 1, 3, 3, 3, 2, 1]),
            [0, 73])

    def test_saving_of_a_box_that_is_stocked(self):
        self.assertEqual(
            saving(6, 1, [2, 2, 2, 3, 3, 3, 4, 2, 2], [2, 2, 1, 10, 4, 2, 1, 3, 3, 3, 2, 1]),
            [-17])


class Plan:
    """Boxes and items, with the total cost of every stock."""

    def __init__(self, boxes, items):
        self.lists = boxes, items
        self.count = len(boxes) // 3
        self.stocks = range(2 ** self.count)
        self.costs = [total_cost(stock, boxes, items)[0] for stock in self.stocks]

    def stocks_within(self, limit):
        return [stock for stock in self.stocks if bin(stock).count("1") <= limit]

    def additions(self):
        """Each stock with each box that it lacks."""
        for stock, box in itertools.product(self.stocks, range(self.count)):
            if not stock >> box & 1:
                yield stock, box


def plans():
    """The document's example, crossed choices, small boxes in every choice, and made-up ones."""
    yield Plan([2, 2, 2, 3, 3, 3, 4, 2, 2], [2, 2, 1, 10, 4, 2, 1, 3, 3, 3, 2, 1])
    crossing = [9, 9, 2, 20, 9, 1, 8, 8, 8]
    for quantities in itertools.product((1, 2, 99), repeat=4):
        sizes = [20, 1, 1], [9, 9, 1], [8, 8, 2], [8, 8, 8]
        items = []
        for size, quantity in zip(sizes, quantities):
            items += size + [quantity]
        yield Plan(crossing, items)
    small = list(itertools.combinations_with_replacement((1, 2, 3), 3))
    items = [1, 1, 1, 5, 2, 1, 1, 4, 2, 2, 1, 3, 3, 1, 1, 2, 2, 2, 2, 1, 3, 3, 1, 1]
    for choice in itertools.combinations(small, 3):
        yield Plan([edge for size in choice for edge in size], items)
    for boxes, items in made_up_inputs(101, 100):
        yield Plan(boxes, items)


class RequirementsTest(unittest.TestCase):
    @classmethod
    def setUpClass(cls):
        cls.plans = list(plans())

    def test_1_no_stock_within_the_limit_costs_less_than_the_best(self):
        for plan in self.plans:
            curve = cost_curve(*plan.lists)
            for limit in range(plan.count + 1):
                stock, cost = best_stock(limit, *plan.lists)
                self.assertIn(stock, plan.stocks_within(limit), plan.lists)
                self.assertEqual(plan.costs[stock], cost, plan.lists)
                self.assertEqual(curve[1 + limit], cost, plan.lists)
                for other in plan.stocks_within(limit):
                    self.assertLessEqual(cost, plan.costs[other], (limit, other, plan.lists))

    def test_1_a_limit_above_the_number_of_boxes(self):
        for plan in self.plans:
            for limit in (plan.count + 1, 40, GREATEST):
                cost = best_stock(limit, *plan.lists)[1]
                self.assertEqual(cost, min(plan.costs), plan.lists)

    def test_2_any_two_stocks(self):
        for plan in self.plans:
            costs = plan.costs
            for one, other in itertools.combinations(plan.stocks, 2):
                apart = costs[one] + costs[other]
                if apart > costs[one | other] + costs[one & other]:
                    self.fail((one, other, plan.lists))

    def test_2_savings_never_increase(self):
        for plan in self.plans:
            savings = {}
            for stock, box in plan.additions():
                savings[stock, box] = saving(stock, box, *plan.lists)[0]
            for stock, box in savings:
                for other in range(plan.count):
                    beside = savings.get((stock | 1 << other, box), 0)
                    self.assertLessEqual(beside, savings[stock, box], (stock, box, plan.lists))

    def test_3_an_additional_box_never_increases_the_cost(self):
        for plan in self.plans:
            for stock, box in plan.additions():
                self.assertLessEqual(plan.costs[stock | 1 << box], plan.costs[stock], plan.lists)
                self.assertGreaterEqual(saving(stock, box, *plan.lists)[0], 0, plan.lists)

    def test_3_the_greedy_stock_costs_at_least_as_much_as_the_best(self):
        dearer = 0
        for plan in self.plans:
            for limit in range(plan.count + 2):
                stock, greedy = greedy_stock(limit, *plan.lists)
                best = best_stock(limit, *plan.lists)[1]
                self.assertEqual(plan.costs[stock], greedy, plan.lists)
                self.assertGreaterEqual(greedy, best, (limit, plan.lists))
                dearer += greedy > best
        self.assertGreater(dearer, 10)

    def test_4_the_greedy_stock_saves_at_least_half_of_what_the_best_saves(self):
        for plan in self.plans:
            for limit in range(plan.count + 1):
                greedy_saves = plan.costs[0] - greedy_stock(limit, *plan.lists)[1]
                best_saves = plan.costs[0] - best_stock(limit, *plan.lists)[1]
                self.assertGreaterEqual(2 * greedy_saves, best_saves, (limit, plan.lists))

    def test_5_what_is_packed_fits_and_has_at_most_the_volume_of_its_box(self):
        for plan in self.plans:
            boxes, items = plan.lists
            for stock in plan.stocks:
                for start in range(0, len(items), 4):
                    self.assert_packed(stock, boxes, items[start:start + 3])
                self.assertGreaterEqual(empty_space(stock, boxes, items)[1], 0)

    def assert_packed(self, stock, boxes, size):
        fitting = []
        for box in range(len(boxes) // 3):
            if stock >> box & 1 and fits(size, boxes[3 * box:3 * box + 3]) == [1]:
                fitting.append(box)
        answer = box_for(stock, boxes, size)
        if answer == [-33]:
            self.assertEqual(fitting, [], (stock, boxes, size))
        else:
            self.assertIn(answer[0], fitting, (stock, boxes, size))
            self.assertLessEqual(size[0] * size[1] * size[2], answer[1])


if __name__ == "__main__":
    unittest.main()
