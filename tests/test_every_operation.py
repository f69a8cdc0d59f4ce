"""What the operations have in common: refused lists, and what every call keeps to."""

import unittest

from boxeskept.stocks import (
    best_stock, box_for, cost_curve, empty_space, fits, greedy_stock, saving, total_cost,
)
from reference import BOXES, GREATEST, ITEMS, ReadOnlyList, made_up_inputs, made_up_sizes

# The first two are stocks of BOXES and the others aren't; as limits all will do.
FIRST_NUMBERS = [(number,) for number in (0, 7, 8, 128, GREATEST)]

# A box that can be added, one that is stocked, and boxes and stocks that don't exist.
STOCKS_AND_BOXES = [(0, 0), (5, 1), (7, 2), (0, 3), (8, 0), (8, 3), (128, 7), (GREATEST, GREATEST)]

# These are handed boxes and items, behind these numbers; box_for and fits are handed sizes.
WITH_ITEMS = {
    total_cost: FIRST_NUMBERS,
    best_stock: FIRST_NUMBERS,
    greedy_stock: FIRST_NUMBERS,
    saving: STOCKS_AND_BOXES,
    cost_curve: [()],
    empty_space: FIRST_NUMBERS,
}

LENGTHS = {
    total_cost: 1, best_stock: 2, greedy_stock: 2, box_for: 2, saving: 1, fits: 1, empty_space: 2,
}


class RefusedListsTest(unittest.TestCase):
    def assert_refused(self, boxes, items):
        for operation, choices in WITH_ITEMS.items():
            for numbers in choices:
                self.assertEqual(
                    operation(*numbers, boxes, items), [-22], (operation, numbers, boxes, items))

    def assert_taken(self, boxes, items):
        for operation, choices in WITH_ITEMS.items():
            answer = operation(*choices[0], boxes, items)
            self.assertNotEqual(answer[0], -22, (operation, boxes, items))

    def assert_boxes_refused(self, boxes):
        for items in ([], ITEMS):
            self.assert_refused(boxes, items)

    def assert_items_refused(self, items):
        for boxes in ([], BOXES):
            self.assert_refused(boxes, items)

    def test_every_length_of_boxes(self):
        for length in range(41):
            boxes = [1] * length
            if length in (0, 3, 6, 9, 12, 15, 18, 21):
                self.assert_taken(boxes, ITEMS)
            else:
                self.assert_boxes_refused(boxes)

    def test_every_length_of_items(self):
        for length in range(41):
            items = [1] * length
            if length in (0, 4, 8, 12, 16, 20, 24, 28, 32):
                self.assert_taken(BOXES, items)
            else:
                self.assert_items_refused(items)

    def test_a_number_missing_or_too_many(self):
        self.assert_boxes_refused(BOXES[:-1])
        self.assert_boxes_refused(BOXES[:-2])
        self.assert_boxes_refused(BOXES + [1])
        self.assert_items_refused(ITEMS[:-1])
        self.assert_items_refused(ITEMS[:-3])
        self.assert_items_refused(ITEMS + [1])

    def test_8_boxes(self):
        self.assert_taken([2, 2, 2] * 7, ITEMS)
        self.assert_boxes_refused([2, 2, 2] * 8)

    def test_9_items(self):
        self.assert_taken(BOXES, [2, 2, 2, 99] * 8)
        self.assert_items_refused([2, 2, 2, 99] * 9)

    def test_40_numbers(self):
        for number in (0, 1, 20, 21, 99, GREATEST):
            self.assert_boxes_refused([number] * 40)
            self.assert_items_refused([number] * 40)

    def test_edge_of_a_box(self):
        for place in range(21):
            boxes = [5] * 21
            for edge in (1, 2, 19, 20):
                boxes[place] = edge
                self.assert_taken(boxes, ITEMS)
            for edge in (0, 21, 22, 99, GREATEST):
                boxes[place] = edge
                self.assert_boxes_refused(boxes)

    def test_edge_of_an_item(self):
        for place in range(32):
            if place % 4 == 3:
                continue
            items = [5] * 32
            for edge in (1, 2, 19, 20):
                items[place] = edge
                self.assert_taken(BOXES, items)
            for edge in (0, 21, 22, 99, 100, GREATEST):
                items[place] = edge
                self.assert_items_refused(items)

    def test_quantity_of_an_item(self):
        for place in range(3, 32, 4):
            items = [5] * 32
            for quantity in (1, 2, 20, 21, 98, 99):
                items[place] = quantity
                self.assert_taken(BOXES, items)
            for quantity in (0, 100, 101, GREATEST):
                items[place] = quantity
                self.assert_items_refused(items)

    def test_one_of_one(self):
        for edge in (0, 21, GREATEST):
            self.assert_boxes_refused([edge, 1, 1])
            self.assert_items_refused([1, edge, 1, 1])
        for quantity in (0, 100, GREATEST):
            self.assert_items_refused([1, 1, 1, quantity])

    def test_boxes_and_items_alike(self):
        for boxes in ([1], [1] * 24, [0, 1, 1], [1, 21, 1], [GREATEST] * 3):
            for items in ([1], [1] * 36, [0, 1, 1, 1], [1, 1, 1, 100], [GREATEST] * 4):
                self.assert_refused(boxes, items)

    def test_ahead_of_a_stock_that_does_not_exist(self):
        for operation, numbers in ((total_cost, (8,)), (saving, (8, 0)), (empty_space, (8,))):
            self.assertEqual(operation(*numbers, BOXES, ITEMS), [-2])
            self.assertEqual(operation(*numbers, BOXES, ITEMS + [1]), [-22])
            self.assertEqual(operation(*numbers, BOXES, [1, 1, 1, 0]), [-22])
            self.assertEqual(operation(*numbers, BOXES + [1], ITEMS), [-22])
            self.assertEqual(operation(*numbers, [0] + BOXES[1:], ITEMS), [-22])
        self.assertEqual(total_cost(GREATEST, [1], [1]), [-22])
        self.assertEqual(saving(GREATEST, GREATEST, [1], [1]), [-22])
        self.assertEqual(empty_space(GREATEST, [1], [1]), [-22])


def told_length(operation, lists):
    """How many numbers the operation answers when it refuses nothing."""
    if operation == cost_curve:
        return len(lists[0]) // 3 + 2
    return LENGTHS[operation]


class EveryCallTest(unittest.TestCase):
    def calls_with_items(self):
        refused = (([1], ITEMS), (BOXES, [1]), ([21, 1, 1], [1, 1, 1, 0]), ([1] * 40, [1] * 40))
        inputs = list(made_up_inputs(31, 60)) + [(BOXES, ITEMS), ([], [])] + list(refused)
        for boxes, items in inputs:
            for operation, choices in WITH_ITEMS.items():
                for numbers in choices:
                    yield operation, numbers, [boxes, items]

    def calls_of_box_for(self):
        refused = (([1], [1, 1, 1]), (BOXES, [1]), ([21, 1, 1], [1, 1, 0]), ([1] * 40, [1] * 40))
        known = ((BOXES, [1, 4, 2]), (BOXES, [3, 1, 2]), (BOXES, [20, 1, 3]), ([], [1, 1, 1]))
        for boxes, size in list(made_up_sizes(32, 60)) + list(known + refused):
            for numbers in FIRST_NUMBERS:
                yield box_for, numbers, [boxes, size]

    def calls_of_fits(self):
        sizes = [[1, 4, 2], [4, 2, 1], [2, 2, 2], [20, 1, 3], [20, 20, 20]]
        refused = [[], [1], [1, 1, 0], [21, 1, 1], [1] * 4, [1] * 40, [GREATEST] * 3]
        for item_size in sizes + refused:
            for box_size in sizes + refused:
                yield fits, (), [list(item_size), list(box_size)]

    def calls(self):
        yield from self.calls_with_items()
        yield from self.calls_of_box_for()
        yield from self.calls_of_fits()

    def test_what_is_handed_in_is_unchanged(self):
        for operation, numbers, lists in self.calls():
            then = [list(handed) for handed in lists]
            operation(*numbers, *lists)
            self.assertEqual(lists, then, operation)

    def test_what_is_handed_in_is_not_changed_for_a_while(self):
        for operation, numbers, lists in self.calls():
            answer = operation(*numbers, *lists)
            again = operation(*numbers, *[ReadOnlyList(handed) for handed in lists])
            self.assertEqual(again, answer)

    def test_one_list_as_boxes_and_items(self):
        self.assertEqual(total_cost(1, [2] * 12, [2] * 12), [48])
        both = ReadOnlyList([2] * 12)
        self.assertEqual(total_cost(1, both, both), [48])
        self.assertEqual(best_stock(1, both, both), [1, 48])
        self.assertEqual(greedy_stock(1, both, both), [1, 48])
        self.assertEqual(saving(0, 1, both, both), [599952])
        self.assertEqual(cost_curve(both, both), [5, 600000, 48, 48, 48, 48])
        self.assertEqual(empty_space(0, both, both), [0, 599952])

    def test_one_list_as_boxes_and_size_and_as_both_sizes(self):
        both = ReadOnlyList([3, 1, 2])
        self.assertEqual(box_for(1, both, both), [0, 6])
        self.assertEqual(fits(both, both), [1])

    def test_same_answer_when_called_again(self):
        calls = list(self.calls())
        answers = [operation(*numbers, *lists) for operation, numbers, lists in calls]
        for (operation, numbers, lists), answer in zip(reversed(calls), reversed(answers)):
            self.assertEqual(operation(*numbers, *lists), answer)
            self.assertEqual(operation(*numbers, *lists), answer)

    def test_a_changed_answer_does_not_show_in_the_next(self):
        for operation, numbers, lists in self.calls():
            answer = operation(*numbers, *lists)
            kept = list(answer)
            answer.append(1)
            self.assertEqual(operation(*numbers, *lists), kept)

    def test_the_answer_is_a_list_of_whole_numbers(self):
        for operation, numbers, lists in self.calls():
            answer = operation(*numbers, *lists)
            self.assertIs(type(answer), list)
            for number in answer:
                self.assertIs(type(number), int)

    def test_as_many_numbers_as_told_and_an_error_code_alone(self):
        refusals = {
            total_cost: [[-22], [-2]],
            best_stock: [[-22]],
            greedy_stock: [[-22]],
            box_for: [[-22], [-2], [-33]],
            saving: [[-22], [-2], [-17]],
            cost_curve: [[-22]],
            fits: [[-22]],
            empty_space: [[-22], [-2]],
        }
        refused = {operation: [] for operation in refusals}
        for operation, numbers, lists in self.calls():
            answer = operation(*numbers, *lists)
            if answer[0] < 0:
                self.assertIn(answer, refusals[operation])
                refused[operation].append(answer)
            else:
                self.assertEqual(len(answer), told_length(operation, lists))
                self.assertGreaterEqual(min(answer), 0)
        for operation, answers in refusals.items():
            for answer in answers:
                self.assertIn(answer, refused[operation])


if __name__ == "__main__":
    unittest.main()
