"""Work: what devices take and give back, the loops that histories close, potentials and shares."""

from turnweights.memories import check_levels, check_memory, is_memory, memories, memory_of, moved, moves, switches_on
from turnweights.values import is_integer


def work_at(device, memory, levels):
    """The work at levels that follow a memory; raises BadMemory(), then BadLevels(index)."""
    check_memory(device.top, memory)
    check_levels(device.top, levels)
    weights = device.weights()
    on = {switch: True for switch in switches_on(device.top, memory)}
    work = 0
    for level in levels:
        work = work + _gone(weights, on, level)
    return work


def loop_work(device, low, high):
    """The work of a small loop."""
    weights = device.weights()
    return sum([weights[up, down] * (up - down) for up, down in weights if low <= down and up <= high])


def closed_loops(top, history):
    """The closed loops of a history; raises BadLevels(index)."""
    check_levels(top, history)
    loops = {}
    memory = ()
    for level in history:
        for loop in loops_closed_by(memory, level):
            loops[loop] = loops.get(loop, 0) + 1
        memory = moved(memory, level)
    return loops


def giving_loop(device):
    """A loop with a work below 0, or None."""
    (low, high), work = _least_small_loop(device)
    # All loops close small loops and nothing else: if none of these gives work away, no loop does.
    return (memory_of(device.top, [high, low]), [high, low]) if work < 0 else None


def potentials(device):
    """Potentials, or None."""
    return share_numbers(device) if giving_loop(device) is None else None


def least_share(device):
    """The least share of all loops, as a fraction."""
    _, work = _least_small_loop(device)
    if work >= 0:
        return 0, 1
    return (work, 2) if work % 2 else (work // 2, 1)


def share_loop(device):
    """A loop with the least share."""
    found = giving_loop(device)
    # Staying at the level 0 takes no work.
    return ((), [0]) if found is None else found


def share_numbers(device):
    """Numbers for the least share."""
    top, bottom = least_share(device)
    # A level that closes small loops takes their works more than the memory after it has more than the one before
    # it; and the memory has two entries less for each of them, and at most one entry more for the level.
    return {
        memory: bottom * work_at(device, (), list(memory)) - top * len(memory) for memory in memories(device.top)
    }


def are_numbers(device, share, numbers):
    """Whether any value is numbers for a fraction."""
    top, bottom = share
    all_memories = memories(device.top)
    if not isinstance(numbers, dict) or len(numbers) != len(all_memories):
        return False
    if not all([is_memory(device.top, key) and is_integer(numbers[key]) for key in numbers]):
        return False
    for memory in all_memories:
        for following, work in steps(device, memory):
            if bottom * work - top < numbers[following] - numbers[memory]:
                return False
    return True


def steps(device, memory):
    """For each level at a right memory, the pair of the memory after it and of its work."""
    weights = device.weights()
    on = switches_on(device.top, memory)
    return [
        (following, _gone(weights, {switch: True for switch in on}, level))
        for level, following in enumerate(moves(device.top, memory))
    ]


def loops_closed_by(memory, level):
    """The ascending list of the small loops that a right level closes behind a right memory."""
    turns = [0, *memory]
    loops = []
    while len(turns) > 1:
        last = turns.pop()
        # At even places are lows, at odd ones highs; a turn is closed in if the level reaches the one before it.
        is_high = len(turns) % 2 == 1
        if is_high and level <= turns[-1]:
            loops.append((turns.pop(), last))
        elif not is_high and level >= turns[-1]:
            loops.append((last, turns.pop()))
    return sorted(loops)


def _gone(weights, on, level):
    """The work of a level; on, a dict that has the switches that are on, becomes as it is after the level."""
    work = 0
    for switch in weights:
        up, down = switch
        if level >= up and switch not in on:
            on[switch] = True
            work = work + weights[switch] * up
        elif level <= down and switch in on:
            del on[switch]
            work = work - weights[switch] * down
    return work


def _least_small_loop(device):
    """A small loop with the least work of all small loops, and this work."""
    works = {
        (low, high): loop_work(device, low, high)
        for high in range(1, device.top + 1) for low in range(high)
    }
    least = min(works, key=lambda loop: works[loop])
    return least, works[least]
