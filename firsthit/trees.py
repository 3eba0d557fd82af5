"""Trees of boxes, so that a ray is spared the shapes that it goes nowhere near.

A tree has the least box about all that is below it. Of a single shape it has
that shape's number and no halves; of several no number, but two halves that
share them.
"""

from firsthit.boxes import box_around, span_in


class Tree:
    def __init__(self, box, number, halves):
        self.box = box
        self.number = number
        self.halves = halves


def widest_place(box):
    widths = [high - low for low, high in zip(box[0], box[1])]
    return widths.index(max(widths))


def tree_over(leaves):
    # Halved by how many, not by where: so even boxes that are all alike make no high tree.
    if len(leaves) == 1:
        return leaves[0]
    box = box_around([leaf.box[0] for leaf in leaves] + [leaf.box[1] for leaf in leaves])
    place = widest_place(box)
    # Both sides added up are twice the middle, which may be no whole number itself.
    row = sorted(leaves, key=lambda leaf: leaf.box[0][place] + leaf.box[1][place])
    half = len(row) // 2
    return Tree(box, None, (tree_over(row[:half]), tree_over(row[half:])))


def tree_about(boxes):
    leaves = [Tree(box, number, ()) for number, box in enumerate(boxes)]
    return None if len(leaves) == 0 else tree_over(leaves)


def numbers_along(tree, ray):
    found = []
    waiting = [] if tree is None else [tree]
    while len(waiting) > 0:
        part = waiting.pop()
        if span_in(ray, part.box) is None:
            continue
        if part.number is None:
            waiting.extend(part.halves)
        else:
            found.append(part.number)
    return found
