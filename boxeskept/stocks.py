"""What stocks of boxes cost, save and leave empty, and which box an item fits into."""

BAD_LIST = -22
NO_SUCH_BOX = -2
STOCKED_ALREADY = -17
FITS_NOWHERE = -33

EDGES = 3
NUMBERS_PER_BOX = 3
NUMBERS_PER_ITEM = 4
MOST_BOXES = 7
MOST_ITEMS = 8
LONGEST_EDGE = 20
GREATEST_QUANTITY = 99
COST_WITHOUT_BOX = 100000


def in_range(numbers, greatest):
    """Whether every number is from 1 to the greatest."""
    for number in numbers:
        if number < 1 or number > greatest:
            return False
    return True


def has_length(numbers, step, most):
    """Whether the list holds whole groups of so many numbers, and at most so many groups."""
    return len(numbers) % step == 0 and len(numbers) <= step * most


def are_boxes(boxes):
    """Whether the list is one of boxes, within the limits."""
    return has_length(boxes, NUMBERS_PER_BOX, MOST_BOXES) and in_range(boxes, LONGEST_EDGE)


def are_items(items):
    """Whether the list is one of items, within the limits."""
    if not has_length(items, NUMBERS_PER_ITEM, MOST_ITEMS):
        return False
    for start in range(0, len(items), NUMBERS_PER_ITEM):
        if not in_range(items[start:start + EDGES], LONGEST_EDGE):
            return False
    return in_range(quantities_of(items), GREATEST_QUANTITY)


def is_size(size):
    """Whether the list is one size, within the limits."""
    return len(size) == EDGES and in_range(size, LONGEST_EDGE)


def quantities_of(items):
    """The quantity of each item, in the order of the list."""
    return items[EDGES::NUMBERS_PER_ITEM]


def sorted_sizes(numbers, step):
    """The sorted edge lengths that each group of so many numbers begins with."""
    return [sorted(numbers[start:start + EDGES]) for start in range(0, len(numbers), step)]


def volume_of(size):
    """The volume of a size."""
    return size[0] * size[1] * size[2]


def goes_into(item_size, box_size):
    """Whether an item fits into a box; the edge lengths of both are sorted already."""
    for edge in range(EDGES):
        if item_size[edge] > box_size[edge]:
            return False
    return True


def is_stocked(stock, box):
    """Whether the box is one of the stock."""
    return (stock >> box) & 1 == 1


def stocked_count(stock):
    """How many boxes are stocked."""
    return len([box for box in range(MOST_BOXES) if is_stocked(stock, box)])


def box_count(boxes):
    """How many boxes the list holds."""
    return len(boxes) // NUMBERS_PER_BOX


def stock_count(boxes):
    """How many stocks there are: they are the numbers below this one."""
    return 1 << box_count(boxes)


def with_box(stock, box):
    """The stock with this box beside the others."""
    return stock | (1 << box)


def stocked_sizes(stock, boxes):
    """The sorted sizes of the stocked boxes."""
    sizes = sorted_sizes(boxes, NUMBERS_PER_BOX)
    return [size for box, size in enumerate(sizes) if is_stocked(stock, box)]


def item_cost(item_size, box_sizes):
    """What one piece of an item costs when just these boxes are stocked."""
    volumes = [volume_of(box_size) for box_size in box_sizes if goes_into(item_size, box_size)]
    return min(volumes, default=COST_WITHOUT_BOX)


def stock_cost(stock, boxes, items):
    """The total cost of a stock, for lists that are within the limits."""
    box_sizes = stocked_sizes(stock, boxes)
    cost = 0
    for item_size, quantity in zip(sorted_sizes(items, NUMBERS_PER_ITEM), quantities_of(items)):
        cost += quantity * item_cost(item_size, box_sizes)
    return cost


def pieces_volume(items):
    """The volume of all pieces together."""
    volume = 0
    for size, quantity in zip(sorted_sizes(items, NUMBERS_PER_ITEM), quantities_of(items)):
        volume += quantity * volume_of(size)
    return volume


def total_cost(stock, boxes, items):
    """The total cost of the stock."""
    if not are_boxes(boxes) or not are_items(items):
        return [BAD_LIST]
    if stock >= stock_count(boxes):
        return [NO_SUCH_BOX]
    return [stock_cost(stock, boxes, items)]


def best_stock(limit, boxes, items):
    """The cheapest stock of at most so many boxes, and its cost."""
    if not are_boxes(boxes) or not are_items(items):
        return [BAD_LIST]
    best = 0
    best_cost = stock_cost(best, boxes, items)
    # The stocks come in the order of their numbers: one that only draws level comes too late.
    for stock in range(1, stock_count(boxes)):
        if stocked_count(stock) <= limit:
            cost = stock_cost(stock, boxes, items)
            fewer = stocked_count(stock) < stocked_count(best)
            if cost < best_cost or (cost == best_cost and fewer):
                best = stock
                best_cost = cost
    return [best, best_cost]


def with_next_box(stock, boxes, items):
    """The stock with the box that reduces its cost most; the same stock if no box reduces it."""
    next_stock = stock
    next_cost = stock_cost(stock, boxes, items)
    for box in range(box_count(boxes)):
        larger = with_box(stock, box)
        cost = stock_cost(larger, boxes, items)
        # The boxes come in the order of their indexes: one that only draws level comes too late.
        if cost < next_cost:
            next_stock = larger
            next_cost = cost
    return next_stock


def greedy_stock(limit, boxes, items):
    """The stock that grows box by box, each time by the one that saves most, and its cost."""
    if not are_boxes(boxes) or not are_items(items):
        return [BAD_LIST]
    stock = 0
    while stocked_count(stock) < limit:
        larger = with_next_box(stock, boxes, items)
        if larger == stock:
            break
        stock = larger
    return [stock, stock_cost(stock, boxes, items)]


def stocked_boxes_for(stock, boxes, size):
    """The indexes of the stocked boxes into which an item of this size fits, in rising order."""
    item_size = sorted(size)
    box_sizes = sorted_sizes(boxes, NUMBERS_PER_BOX)
    stocked = [box for box in range(box_count(boxes)) if is_stocked(stock, box)]
    return [box for box in stocked if goes_into(item_size, box_sizes[box])]


def box_for(stock, boxes, size):
    """The smallest stocked box into which an item of this size fits, and its volume."""
    if not are_boxes(boxes) or not is_size(size):
        return [BAD_LIST]
    if stock >= stock_count(boxes):
        return [NO_SUCH_BOX]
    fitting = stocked_boxes_for(stock, boxes, size)
    if len(fitting) == 0:
        return [FITS_NOWHERE]
    box_sizes = sorted_sizes(boxes, NUMBERS_PER_BOX)
    volumes = [volume_of(box_sizes[box]) for box in fitting]
    volume = min(volumes)
    # Of equal volumes the first one's place is found, and so the smallest index.
    return [fitting[volumes.index(volume)], volume]


def saving(stock, box, boxes, items):
    """By how much the total cost decreases with one more box in the stock."""
    if not are_boxes(boxes) or not are_items(items):
        return [BAD_LIST]
    if stock >= stock_count(boxes) or box >= box_count(boxes):
        return [NO_SUCH_BOX]
    if is_stocked(stock, box):
        return [STOCKED_ALREADY]
    cost_with_box = stock_cost(with_box(stock, box), boxes, items)
    return [stock_cost(stock, boxes, items) - cost_with_box]


def cost_curve(boxes, items):
    """How many limits there are up to the number of boxes, and the best stock's cost for each."""
    if not are_boxes(boxes) or not are_items(items):
        return [BAD_LIST]
    costs = [best_stock(limit, boxes, items)[1] for limit in range(box_count(boxes) + 1)]
    return [len(costs)] + costs


def fits(item_size, box_size):
    """1 if an item of the one size fits into a box of the other, 0 if it doesn't."""
    if not is_size(item_size) or not is_size(box_size):
        return [BAD_LIST]
    return [1 if goes_into(sorted(item_size), sorted(box_size)) else 0]


def empty_space(stock, boxes, items):
    """0, and how much of the total cost isn't taken up by the items' own volume."""
    if not are_boxes(boxes) or not are_items(items):
        return [BAD_LIST]
    if stock >= stock_count(boxes):
        return [NO_SUCH_BOX]
    return [0, stock_cost(stock, boxes, items) - pieces_volume(items)]
