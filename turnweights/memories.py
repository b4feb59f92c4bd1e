"""Memories: what histories leave behind, just enough to tell which switches are on."""

from turnweights.errors import BadLevels, BadMemory
from turnweights.values import is_integer


def memories(top):
    """The list of all memories, shorter ones first, those of one length in ascending order."""
    choices = [[]]
    for level in range(1, top + 1):
        choices = choices + [choice + [level] for choice in choices]
    return sorted([_memory_with(choice) for choice in choices], key=lambda memory: (len(memory), memory))


def memory_of(top, history):
    """The memory of a history; raises BadLevels(index)."""
    return memory_after(top, (), history)


def memory_after(top, memory, levels):
    """The memory after levels that follow a memory; raises BadMemory(), then BadLevels(index)."""
    check_memory(top, memory)
    check_levels(top, levels)
    return _followed(memory, levels)


def switches_on(top, memory):
    """The ascending list of the switches that are on with a memory; raises BadMemory()."""
    check_memory(top, memory)
    heights = _heights(top, memory)
    return [switch for switch in switches(top) if switch[0] <= heights[switch[1]]]


def parting_switch(top, first, second):
    """The first switch that parts two histories, or None; raises BadLevels(index)."""
    on_first = switches_on(top, memory_of(top, first))
    on_second = switches_on(top, memory_of(top, second))
    for switch in switches(top):
        if (switch in on_first) != (switch in on_second):
            return switch
    return None


def joined(top, first, second):
    """The memory with the switches that are on with one of two memories; raises BadMemory()."""
    check_memory(top, first)
    check_memory(top, second)
    return _memory_of_heights([max(pair) for pair in zip(_heights(top, first), _heights(top, second))])


def met(top, first, second):
    """The memory with the switches that are on with both of two memories; raises BadMemory()."""
    check_memory(top, first)
    check_memory(top, second)
    return _memory_of_heights([min(pair) for pair in zip(_heights(top, first), _heights(top, second))])


def switches(top):
    """The ascending list of all switches."""
    return [(up, down) for up in range(1, top + 1) for down in range(up)]


def is_level(top, value):
    """Whether any value is a level for the top."""
    return is_integer(value) and 0 <= value <= top


def are_levels(top, value):
    """Whether any value is a list of levels for the top."""
    return isinstance(value, list) and all([is_level(top, entry) for entry in value])


def is_switch(top, value):
    """Whether any value is a switch for the top."""
    if not isinstance(value, tuple) or len(value) != 2:
        return False
    up, down = value
    return is_level(top, up) and is_level(top, down) and down < up


def is_memory(top, value):
    """Whether any value is a memory for the top."""
    if not isinstance(value, tuple) or not all([is_level(top, entry) for entry in value]):
        return False
    # Just the memories are, as histories, their own memories.
    return _followed((), value) == value


def check_levels(top, levels):
    """Raises BadLevels(index) if any value is no list of levels."""
    if not isinstance(levels, list):
        raise BadLevels(0)
    for index, level in enumerate(levels):
        if not is_level(top, level):
            raise BadLevels(index)


def check_memory(top, memory):
    """Raises BadMemory() if any value is no memory."""
    if not is_memory(top, memory):
        raise BadMemory()


def moved(memory, level):
    """The memory after a right level that follows a right memory."""
    if level == 0:
        return ()
    for place, entry in enumerate(memory):
        # A level wipes out the highs up to it and the lows down to it, and all behind the first one of these.
        is_wiped = entry >= level if place % 2 else entry <= level
        if is_wiped:
            return memory[:place] + (level,)
    return memory + (level,)


def moves(top, memory):
    """The memories after one more level that follows a right memory, one for each level."""
    return [moved(memory, level) for level in range(top + 1)]


def _memory_with(levels):
    """The memory that has the levels of an ascending list as its entries."""
    left = list(levels)
    memory = []
    while left:
        memory.append(left.pop(0) if len(memory) % 2 else left.pop())
    return tuple(memory)


def _followed(memory, levels):
    """The memory after right levels that follow a right memory."""
    for level in levels:
        memory = moved(memory, level)
    return memory


def _heights(top, memory):
    """For each down, the greatest up with which a switch is on; 0 if none is. The lesser ups are on, too."""
    return [_height(memory, down) for down in range(top)]


def _height(memory, down):
    """The greatest level since the last one that was at most a down; 0 if the last one is."""
    height = 0
    for level in memory:
        height = max(height, level) if level > down else 0
    return height


def _memory_of_heights(heights):
    """The memory with these heights, which never grow from one down to the next."""
    history = []
    level = 0
    for down, height in enumerate(heights):
        if height > 0:
            # The down leaves the switches of lesser downs as they are, and so does the height: theirs are no less.
            history.extend([down, height])
            level = down + 1
    # The downs from this level on have no switch that is on; it leaves those of the lesser downs as they are.
    return _followed((), history + [level])
