"""Settling conflicts: the best orders of blocks, and why no orders are better."""

from quiltward.blocks import blocks


def has_circle(graph, block):
    """Return whether two lines of a block are before each other."""
    return any(one != other and graph.before(one, other) and graph.before(other, one)
               for one in block for other in block)


def orders_right(graph, block, order):
    """Return whether a list of lines is an order of a block."""
    if sorted(order) != sorted(block):
        return False
    return not any(graph.strictly(order[j], order[i]) for j in range(len(order)) for i in range(j))


def jumps(graph, order):
    """Return how many orders an order takes."""
    return len([k for k in range(len(order) - 1) if not graph.strictly(order[k], order[k + 1])])


class BlockOrders:
    """The orders of a block that can be settled.

    Lines are told by their indexes in the ascending list of all, and what is left by the sum of a bit for each line.
    """

    def __init__(self, graph, block):
        self.lines = sorted(block)
        self.front = [self.bits_in_front(graph, line) for line in self.lines]
        self.all_bits = (1 << len(self.lines)) - 1
        self.least = {}

    def bits_in_front(self, graph, line):
        """Return the sum of the bits of the lines that are strictly before a line."""
        return sum([1 << k for k, one in enumerate(self.lines) if graph.strictly(one, line)])

    def firsts(self, left):
        """Return the list of the lines left that no other one left is strictly before."""
        return [k for k, front in enumerate(self.front) if left >> k & 1 and not front & left]

    def takes(self, last, line):
        """Return how many orders two neighbours take; None stands in front of the first line."""
        return 0 if last is None or self.front[line] >> last & 1 else 1

    def fewest(self, left, last):
        """Return how many orders the lines left take at least behind the last one."""
        if (left, last) not in self.least:
            numbers = [self.fewest_by(left, last, line) for line in self.firsts(left)]
            self.least[(left, last)] = min(numbers, default=0)
        return self.least[(left, last)]

    def fewest_by(self, left, last, line):
        """Return how many orders the lines left take at least if a line is the next one."""
        return self.takes(last, line) + self.fewest(left - (1 << line), line)

    def best(self):
        """Return the list of the lines in the best order."""
        left, last, order = self.all_bits, None, []
        while left:
            last = min([(self.fewest_by(left, last, line), line) for line in self.firsts(left)])[1]
            order.append(self.lines[last])
            left -= 1 << last
        return order

    def named(self, left):
        """Return the list of the lines of a sum of bits, ascending."""
        return [line for k, line in enumerate(self.lines) if left >> k & 1]

    def key_of(self, left, last):
        """Return the pair of the sum of the bits of an ascending list, and the index of a last line; or None."""
        if last not in self.lines or not all(line in self.lines for line in left):
            return None
        bits = sum([1 << k for k, line in enumerate(self.lines) if line in left])
        return (bits, self.lines.index(last)) if self.named(bits) == left else None


def settled(graph, block):
    """Return the best order of a block, or None if it cannot be settled."""
    return None if has_circle(graph, block) else BlockOrders(graph, block).best()


def settling(graph, file):
    """Return the list of the "order" changes that settle a file, or None if some block cannot be settled."""
    changes = []
    for block in blocks(graph):
        order = settled(graph, block)
        if order is None:
            return None
        for k in range(len(order) - 1):
            if not graph.strictly(order[k], order[k + 1]):
                changes.append(("order", file, order[k], order[k + 1]))
    return changes


def potentials(graph, block):
    """Return the list of the potentials of a block that can be settled."""
    orders = BlockOrders(graph, block)
    # All that can be left and last on the way of some order is looked at by this.
    orders.fewest(orders.all_bits, None)
    rows = [(left, last) for left, last in orders.least if last is not None]
    return sorted([(orders.named(left), orders.lines[last], orders.least[(left, last)]) for left, last in rows])


def steps_right(orders, left, last, number, numbers):
    """Return whether for each line that can come next there is a potential that is great enough."""
    for line in orders.firsts(left):
        behind = numbers.get((left - (1 << line), line))
        if behind is None or behind < number - orders.takes(last, line):
            return False
    return True


def potentials_right(graph, block, rows, count):
    """Return whether a list of potentials is right for a number of orders."""
    orders, numbers = BlockOrders(graph, block), {}
    for left, last, number in rows:
        key = orders.key_of(left, last)
        if key is None or key in numbers or (number > 0 and not left):
            return False
        numbers[key] = number
    if not all(steps_right(orders, left, last, numbers[(left, last)], numbers) for left, last in numbers):
        return False
    return steps_right(orders, orders.all_bits, None, count, numbers)
