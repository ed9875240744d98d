"""Sets of some items, told as tuples."""


def subsets(items, size):
    """The sets of so many of the items, each in their order: those with the items that stand first ahead."""
    found = [((), 0)]
    for _ in range(size):
        found = [((*chosen, items[at]), at + 1) for chosen, start in found for at in range(start, len(items))]
    return [chosen for chosen, _ in found]
