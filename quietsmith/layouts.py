"""Layouts, their regions, and the memories that fit them."""

from quietsmith.instructions import is_code
from quietsmith.values import FLOWS, is_integer

MOST_REGIONS = 256
MOST_ADDRESSES = 4096
GREATEST_WORD = 65535


def is_region(value):
    """Tells whether the value is a region."""
    if not isinstance(value, tuple) or len(value) != 4:
        return False
    start, size, flow, most = value
    if not is_integer(start, 0, MOST_ADDRESSES - 1) or not is_integer(size, 1, MOST_ADDRESSES - start):
        return False
    return flow in FLOWS and is_integer(most, 0, GREATEST_WORD)


def is_layout(value):
    """Tells whether the value is a layout."""
    if not isinstance(value, tuple) or len(value) > MOST_REGIONS:
        return False
    end = 0
    for region in value:
        if not is_region(region) or region[0] < end:
            return False
        end = region_end(region)
    return True


def is_code_file(value):
    """Tells whether the value is a code file."""
    return isinstance(value, tuple) and len(value) == 2 and is_layout(value[0]) and is_code(value[1])


def region_end(region):
    """Returns the first address behind a region."""
    return region[0] + region[1]


def layout_end(layout):
    """Returns the end of the layout."""
    if len(layout) == 0:
        return 0
    return region_end(layout[-1])


def region_at(layout, address):
    """Returns the index of the region that has the address, or -1 if there is none."""
    # The regions stand in the order of their addresses: halving finds the last one that starts early enough.
    low = 0
    high = len(layout)
    while low < high:
        middle = (low + high) // 2
        if layout[middle][0] <= address:
            low = middle + 1
        else:
            high = middle
    if low == 0 or address >= region_end(layout[low - 1]):
        return -1
    return low - 1


def is_memory(layout, value):
    """Tells whether the value is a memory of the layout."""
    if not isinstance(value, list) or len(value) != layout_end(layout):
        return False
    if not all(is_integer(word, 0, GREATEST_WORD) for word in value):
        return False
    return all(max(value[region[0]:region_end(region)]) <= region[3] for region in layout)
