"""Grids: the lines on which boxes begin and end, and the boxes by the ranks of their lines.

On a grid, places are compared as small integers, and nothing is lost: between two neighboring lines nothing changes.
"""

from steadybodies.ratios import ascending


def grid_of(all_ends):
    """The pair (lines, ranked): on each axis all ends, each once, ascending; and all ends by their ranks there."""
    lines = [ascending([end for ends in all_ends for end in ends[axis]]) for axis in (0, 1)]
    ranks = [{line: rank for rank, line in enumerate(some)} for some in lines]
    ranked = [
        tuple([(ranks[axis][low], ranks[axis][high]) for axis, (low, high) in enumerate(ends)])
        for ends in all_ends
    ]
    return (lines, ranked)
