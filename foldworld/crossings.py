"""Which arches cross: two pairs of numbers, the lesser number first in each."""


def is_crossing(arch, other_arch):
    """Whether two arches cross."""
    low, high = arch
    other_low, other_high = other_arch
    return low < other_low < high < other_high or other_low < low < other_high < high


def first_crossing(arches):
    """Tell the first two of these arches that cross, as a pair of them, None if none do."""
    for index, arch in enumerate(arches):
        for other_arch in arches[index + 1:]:
            if is_crossing(arch, other_arch):
                return arch, other_arch
    return None
