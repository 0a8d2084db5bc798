"""What is shown of a file: its blocks, in order."""


def many_bits(mask):
    """Return how many lines a sum of bits stands for."""
    digits = f"{mask:b}"
    return digits.count("1")


def first_free(lines, front, mask):
    """Return the first line that has none of the lines of a sum of bits in front of it."""
    for line in lines:
        if not front[line] & mask:
            return line
    return None


def in_order(graph, block):
    """Return the lines of a block as they are shown."""
    left, mask = sorted(block), graph.mask_of(block)
    front = {line: graph.mask_in_front(line) & mask for line in block}
    order = []
    while left:
        line = first_free(left, front, mask)
        left.remove(line)
        mask -= graph.bits[line]
        order.append(line)
    return order


def weights(graph, lines):
    """Return a dict from present lines to how many more present lines are strictly behind than in front of them."""
    present = graph.mask_of(lines)
    behind = {line: many_bits(graph.mask_behind(line) & present) for line in lines}
    return {line: behind[line] - many_bits(graph.mask_in_front(line) & present) for line in lines}


def blocks(graph):
    """Return the list of the blocks of a graph, each a list of lines, as they are shown."""
    lines = graph.present_lines()
    weight = weights(graph, lines)
    rows, block, total = [], [], 0
    # Lines of earlier blocks weigh more. The weights of the first lines add up to the number of the pairs that lead
    # from them to the others, less those that lead back; so a block ends where this is as great as it can be.
    for many, (less, line) in enumerate(sorted([(-weight[line], line) for line in lines]), start=1):
        block.append(line)
        total -= less
        if total == many * (len(lines) - many):
            rows.append(in_order(graph, block))
            block = []
    return rows


def shown_order(graph):
    """Return the list of the present lines as they are shown, block behind block."""
    return [line for block in blocks(graph) for line in block]


def shown(graph):
    """Return the list of the blocks as they are shown, with a pair (line, text) for each line."""
    return [[(line, graph.lines[line]) for line in block] for block in blocks(graph)]


def conflicts(graph):
    """Return the list of the blocks that are conflicts."""
    return [block for block in blocks(graph) if len(block) > 1]


def shown_texts(graph):
    """Return the list of the texts of the shown lines, or None if there is a conflict."""
    rows = blocks(graph)
    if any(len(block) > 1 for block in rows):
        return None
    return [graph.lines[block[0]] for block in rows]


def blocks_right(graph, rows):
    """Return whether lists of present lines are the blocks of a graph as they are shown."""
    return rows == blocks(graph)
