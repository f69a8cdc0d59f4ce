"""What the tests share: the document's example, an answer found another way, and inputs."""

import itertools
import random

BOXES = [2, 2, 2, 3, 3, 3, 4, 2, 2]
ITEMS = [2, 2, 1, 10, 4, 2, 1, 3, 3, 3, 2, 1]

GREATEST = 4294967295


class ReadOnlyList(list):
    """A list that can't be changed, not even for a while."""

    def refuse(self, *args, **kwargs):
        raise AssertionError("what is handed in must not be changed")

    append = clear = extend = insert = pop = remove = reverse = sort = refuse
    __setitem__ = __delitem__ = __iadd__ = __imul__ = refuse


def groups(numbers, step):
    return [numbers[start:start + step] for start in range(0, len(numbers), step)]


def turned_into(item, box):
    """Fitting, by trying each way to turn the item."""
    return any(
        all(edge <= room for edge, room in zip(turned, box))
        for turned in itertools.permutations(item)
    )


def piece_costs(boxes, items):
    """For each item its quantity and what a piece costs in each box, None where it can't go."""
    table = []
    for *size, quantity in groups(items, 4):
        costs = []
        for box in groups(boxes, 3):
            costs.append(box[0] * box[1] * box[2] if turned_into(size, box) else None)
        table.append((quantity, costs))
    return table


def all_costs(boxes, items):
    """The total cost of every stock, by the stock's number."""
    table = piece_costs(boxes, items)
    costs = []
    for stock in range(2 ** (len(boxes) // 3)):
        total = 0
        for quantity, by_box in table:
            stocked = [cost for box, cost in enumerate(by_box) if stock & 2 ** box and cost]
            total += quantity * min(stocked, default=100000)
        costs.append(total)
    return costs


def best_of(limit, costs):
    """The best stock and its cost: cheapest, then fewest boxes, then the smallest number."""
    allowed = [
        (cost, bin(stock).count("1"), stock)
        for stock, cost in enumerate(costs)
        if bin(stock).count("1") <= limit
    ]
    cost, count, stock = min(allowed)
    return [stock, cost]


def greedy_of(limit, costs):
    """The greedy stock and its cost, step by step from the table of all costs."""
    count = len(costs).bit_length() - 1
    stock = 0
    for step in range(min(limit, count)):
        cost, box = min((costs[stock | 2 ** box], box) for box in range(count))
        if cost == costs[stock]:
            break
        stock |= 2 ** box
    return [stock, costs[stock]]


def curve_of(costs):
    """What cost_curve answers, from the table of all costs."""
    count = len(costs).bit_length() - 1
    return [count + 1] + [best_of(limit, costs)[1] for limit in range(count + 1)]


def saving_of(stock, box, costs):
    """What saving answers for lists that are within the limits, from the table of all costs."""
    count = len(costs).bit_length() - 1
    if stock not in range(len(costs)) or box not in range(count):
        return [-2]
    if bin(stock)[2:].zfill(count)[-1 - box] == "1":
        return [-17]
    return [costs[stock] - costs[stock + 2 ** box]]


def space_of(stock, costs, items):
    """What empty_space answers for a stock that exists, from the table of all costs."""
    space = costs[stock]
    for length, width, height, quantity in groups(items, 4):
        space -= length * width * height * quantity
    return [0, space]


def box_of(stock, boxes, size):
    """What box_for answers for lists that are within the limits."""
    if stock >= 2 ** (len(boxes) // 3):
        return [-2]
    fitting = [
        (box[0] * box[1] * box[2], index)
        for index, box in enumerate(groups(boxes, 3))
        if stock & 2 ** index and turned_into(size, box)
    ]
    if not fitting:
        return [-33]
    volume, index = min(fitting)
    return [index, volume]


def made_up_inputs(seed, count):
    """So many boxes and items, the same ones for the same seed.

    Short edges make equal boxes and ties likely, long ones items that fit nowhere.
    """
    source = random.Random(seed)
    for number in range(count):
        longest = source.choice([2, 3, 5, 20])
        boxes = [source.randint(1, longest) for edge in range(3 * source.randint(0, 7))]
        items = []
        for item in range(source.randint(0, 8)):
            items += [source.randint(1, longest) for edge in range(3)]
            items.append(source.choice([1, 2, source.randint(1, 99)]))
        yield boxes, items


def made_up_sizes(seed, count):
    """So many boxes and sizes, the same ones for the same seed."""
    source = random.Random(seed)
    for boxes, items in made_up_inputs(seed, count):
        longest = source.choice([2, 3, 5, 20])
        yield boxes, [source.randint(1, longest) for edge in range(3)]
