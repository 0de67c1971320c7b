"""Balanced trees of boxes, as nodes that never change: what is changed is a new tree.

A node is a tuple (ends, height, name, children): the ends of its box, the number of boxes on the longest way down
from it, and for a leaf its name and no children, for a branch None and its two children, whose heights differ by
at most 1. The box of a branch is the hull of those of its children.
"""

from steadybodies.boxes import ends_meet, hull_of_ends
from steadybodies.ratios import compare, minus, plus


def leaf_of(name, ends):
    """The leaf with this name and these ends."""
    return (ends, 1, name, ())


def branch_of(one, other):
    """The branch with these two children."""
    return (hull_of_ends(one[0], other[0]), 1 + max(one[1], other[1]), None, (one, other))


def balanced(one, other):
    """A branch over two nodes, whose heights differ by at most 2."""
    if one[1] > other[1]:
        one, other = other, one
    if other[1] - one[1] < 2:
        return branch_of(one, other)
    low, high = other[3]
    if low[1] > high[1]:
        low, high = high, low
    return branch_of(branch_of(one, low), high)


def girth(ends):
    """The sum of the lengths on both axes."""
    (left, right), (bottom, top) = ends
    return plus(minus(right, left), minus(top, bottom))


def growth(node, leaf):
    """By how much the girth of a node grows if it takes a leaf."""
    return minus(girth(hull_of_ends(node[0], leaf[0])), girth(node[0]))


def with_leaf(top, leaf):
    """The tree, or None for an empty one, with a further leaf."""
    if top is None:
        return leaf
    if top[2] is not None:
        return branch_of(top, leaf)
    one, other = top[3]
    if compare(growth(one, leaf), growth(other, leaf)) > 0:
        one, other = other, one
    return balanced(with_leaf(one, leaf), other)


def without_leaf(top, leaf):
    """The tree without a leaf, None if nothing is left; the same tree if it does not have the leaf."""
    if top == leaf:
        return None
    if top[2] is not None or not ends_meet(top[0], leaf[0]):
        return top
    one, other = top[3]
    rest = without_leaf(one, leaf)
    if rest is None:
        return other
    other = without_leaf(other, leaf)
    if other is None:
        return rest
    return balanced(rest, other)


def names_meeting(top, ends):
    """The names of all leaves that meet a box with these ends, ascending."""
    found = []
    waiting = nodes_from(top)
    while waiting != []:
        node_ends, _, name, children = waiting.pop()
        if ends_meet(node_ends, ends):
            waiting.extend(children)
            if name is not None:
                found.append(name)
    return sorted(found)


def least_leaf(top, measure):
    """The pair (name, worth) of the leaf with the least worth, of several the one with the least name, or None.

    measure returns the worth of a box by its ends, a fraction or None for a box that does not count. It is never
    greater for a box than for one within it, so that whole branches are passed over.
    """
    best = None
    waiting = nodes_from(top)
    while waiting != []:
        ends, _, name, children = waiting.pop()
        worth = measure(ends)
        if worth is None or (best is not None and compare(worth, best[1]) > 0):
            continue
        waiting.extend(children)
        if name is not None and (best is None or name < best[0] or compare(worth, best[1]) < 0):
            best = (name, worth)
    return best


def nodes_from(top):
    """The nodes with which a way down a tree begins."""
    if top is None:
        return []
    return [top]
