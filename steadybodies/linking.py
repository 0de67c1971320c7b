"""Sets of names that links hold together, directly or by others."""


def linked_sets(names, links):
    """All sets of names that links, which are lists of names, hold together, each ascending, ascending."""
    set_of = {name: (name,) for name in names}
    for link in links:
        joined = tuple(sorted({member for name in link for member in set_of[name]}))
        for member in joined:
            set_of[member] = joined
    return tuple(sorted(set(list(set_of.values()))))
