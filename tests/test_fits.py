import itertools
import random
import unittest

from boxeskept.stocks import box_for, fits, total_cost
from reference import GREATEST, turned_into

SHORT_SIZES = [list(size) for size in itertools.product(range(1, 5), repeat=3)]


def long_sizes(seed, count):
    """So many sizes with edges of every length, the same ones for the same seed."""
    source = random.Random(seed)
    return [[source.randint(1, 20) for edge in range(3)] for size in range(count)]


class OrdinarySizesTest(unittest.TestCase):
    def test_fits(self):
        self.assertEqual(fits([1, 1, 1], [2, 2, 2]), [1])
        self.assertEqual(fits([1, 4, 2], [4, 2, 2]), [1])
        self.assertEqual(fits([1, 1, 1], [20, 20, 20]), [1])

    def test_does_not_fit(self):
        self.assertEqual(fits([3, 3, 3], [2, 2, 2]), [0])
        self.assertEqual(fits([1, 4, 2], [3, 3, 3]), [0])
        self.assertEqual(fits([20, 20, 20], [1, 1, 1]), [0])

    def test_as_large_as_the_box(self):
        for size in ([1, 1, 1], [4, 3, 2], [20, 20, 20], [1, 20, 1]):
            self.assertEqual(fits(size, size), [1], size)

    def test_one_edge_just_equal(self):
        for item_size in ([4, 1, 1], [3, 3, 1], [2, 2, 2]):
            self.assertEqual(fits(item_size, [4, 3, 2]), [1], item_size)

    def test_one_edge_too_long(self):
        for item_size in ([5, 3, 2], [4, 4, 2], [4, 3, 3], [5, 1, 1], [4, 4, 1], [3, 3, 3]):
            self.assertEqual(fits(item_size, [4, 3, 2]), [0], item_size)

    def test_a_small_item_may_be_too_long(self):
        self.assertEqual(fits([1, 1, 20], [19, 19, 19]), [0])

    def test_the_first_is_the_item_and_the_second_the_box(self):
        self.assertEqual(fits([2, 2, 1], [2, 2, 2]), [1])
        self.assertEqual(fits([2, 2, 2], [2, 2, 1]), [0])

    def test_neither_into_the_other(self):
        self.assertEqual(fits([5, 1, 1], [2, 2, 2]), [0])
        self.assertEqual(fits([2, 2, 2], [5, 1, 1]), [0])

    def test_fits_only_when_turned(self):
        for item_size in itertools.permutations([1, 2, 3]):
            for box_size in itertools.permutations([1, 2, 3]):
                self.assertEqual(fits(list(item_size), list(box_size)), [1])

    def test_edges_are_compared_as_numbers(self):
        self.assertEqual(fits([9, 9, 9], [10, 10, 10]), [1])
        self.assertEqual(fits([10, 10, 10], [9, 9, 9]), [0])

    def test_same_as_found_another_way(self):
        for item_size, box_size in itertools.product(SHORT_SIZES, repeat=2):
            answer = [int(turned_into(item_size, box_size))]
            self.assertEqual(fits(item_size, box_size), answer, (item_size, box_size))
        answers = []
        for item_size, box_size in itertools.product(long_sizes(81, 80), repeat=2):
            answers.append(fits(item_size, box_size))
            self.assertEqual(answers[-1], [int(turned_into(item_size, box_size))])
        self.assertGreater(answers.count([1]), 500)
        self.assertGreater(answers.count([0]), 500)

    def test_same_as_the_other_operations_find(self):
        for item_size, box_size in itertools.product(long_sizes(82, 60), repeat=2):
            volume = box_size[0] * box_size[1] * box_size[2]
            if fits(item_size, box_size) == [1]:
                self.assertEqual(box_for(1, box_size, item_size), [0, volume])
                self.assertEqual(total_cost(1, box_size, item_size + [1]), [volume])
            else:
                self.assertEqual(box_for(1, box_size, item_size), [-33])
                self.assertEqual(total_cost(1, box_size, item_size + [1]), [100000])


class RequirementTest(unittest.TestCase):
    """Requirement 5."""

    def sizes(self):
        return [list(size) for size in itertools.combinations_with_replacement(range(1, 6), 3)]

    def test_transitive(self):
        both = 0
        for sizes in (self.sizes(), long_sizes(83, 40)):
            into = {}
            for item, box in itertools.product(range(len(sizes)), repeat=2):
                into[item, box] = fits(sizes[item], sizes[box]) == [1]
            for small, middle, large in itertools.product(range(len(sizes)), repeat=3):
                if into[small, middle] and into[middle, large]:
                    both += 1
                    self.assertTrue(into[small, large], (sizes[small], sizes[large]))
        self.assertGreater(both, 1000)

    def test_the_order_of_the_edges_does_not_matter(self):
        turns = list(itertools.permutations(range(3)))
        pairs = list(itertools.product(self.sizes(), repeat=2))
        pairs += list(itertools.product(long_sizes(84, 15), repeat=2))
        for item_size, box_size in pairs:
            answer = fits(item_size, box_size)
            for item_turn, box_turn in itertools.product(turns, repeat=2):
                turned_item = [item_size[edge] for edge in item_turn]
                turned_box = [box_size[edge] for edge in box_turn]
                self.assertEqual(fits(turned_item, turned_box), answer, (turned_item, turned_box))

    def test_what_fits_has_at_most_the_volume_of_the_box(self):
        for sizes in (SHORT_SIZES, long_sizes(85, 80)):
            for item_size, box_size in itertools.product(sizes, repeat=2):
                if fits(item_size, box_size) == [1]:
                    self.assertLessEqual(
                        item_size[0] * item_size[1] * item_size[2],
                        box_size[0] * box_size[1] * box_size[2], (item_size, box_size))


class RefusedListsTest(unittest.TestCase):
    def assert_refused(self, size):
        """As either size, beside one that is smaller, one that is larger and one that is bad."""
        for other in ([1, 1, 1], [20, 20, 20], [1, 1], [0, 0, 0]):
            self.assertEqual(fits(size, other), [-22], (size, other))
            self.assertEqual(fits(other, size), [-22], (other, size))

    def test_every_length(self):
        for length in range(41):
            if length == 3:
                self.assertEqual(fits([1] * length, [1] * length), [1])
            else:
                self.assert_refused([1] * length)

    def test_two_sizes_are_not_one(self):
        self.assert_refused([1, 1, 1, 1, 1, 1])

    def test_an_item_with_its_quantity(self):
        self.assert_refused([2, 2, 1, 10])

    def test_each_edge(self):
        for place in range(3):
            size = [5] * 3
            for edge in (1, 2, 19, 20):
                size[place] = edge
                self.assertEqual(fits(size, [20, 20, 20]), [1])
                self.assertEqual(fits([1, 1, 1], size), [1])
            for edge in (0, 21, 22, 99, GREATEST):
                size[place] = edge
                self.assert_refused(size)

    def test_all_edges(self):
        for edge in (0, 21, GREATEST):
            self.assert_refused([edge] * 3)
            self.assert_refused([edge] * 40)


if __name__ == "__main__":
    unittest.main()
