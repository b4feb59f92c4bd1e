"""Ways: levels that lead from one memory to another, to an output, or there with the least work."""

from turnweights.memories import check_memory, memories, moves
from turnweights.outputs import output_with, outputs_with_all
from turnweights.reaching import reached
from turnweights.work import steps


def distance(top, first, second):
    """The least number of levels of a way from a memory to another one; raises BadMemory()."""
    return len(shortest_way(top, first, second))


def shortest_way(top, first, second):
    """A way from a memory to another one with as few levels as possible; raises BadMemory()."""
    check_memory(top, first)
    check_memory(top, second)
    return reached(first, lambda memory: moves(top, memory))[second]


def outputs_had(device):
    """A dict from all outputs to the ascending lists of the levels at which histories with them can end."""
    found = {}
    outputs = outputs_with_all(device)
    for memory in outputs:
        level = memory[-1] if memory else 0
        levels = found.setdefault(outputs[memory], [])
        if level not in levels:
            levels.append(level)
    return {output: sorted(found[output]) for output in found}


def way_to_output(device, memory, output):
    """As few levels as possible after which a device, from a memory, has an output, or None; raises BadMemory()."""
    check_memory(device.top, memory)
    ways = reached(memory, lambda before: moves(device.top, before))
    for after in ways:
        if output_with(device, after) == output:
            return ways[after]
    return None


def least_work(device, first, second, many):
    """The least work of a way with at most so many levels, or None; raises BadMemory()."""
    found = _cheapest(device, first, second, many)
    return None if found is None else found[0]


def cheapest_way(device, first, second, many):
    """A way with the least work of those with at most so many levels, or None; raises BadMemory()."""
    found = _cheapest(device, first, second, many)
    return None if found is None else found[1]


def _cheapest(device, first, second, many):
    """The pair of the least work and a way with it, or None; raises BadMemory()."""
    check_memory(device.top, first)
    check_memory(device.top, second)
    all_steps = {memory: steps(device, memory) for memory in memories(device.top)}
    best = {first: (0, [])}
    for _ in range(many):
        best = _one_level_more(all_steps, best)
    return best.get(second)


def _one_level_more(all_steps, best):
    """The least works and ways to all memories that can be reached, with at most one level more."""
    found = {memory: best[memory] for memory in best}
    for memory in best:
        before, way = best[memory]
        for level, (following, work) in enumerate(all_steps[memory]):
            if following not in found or before + work < found[following][0]:
                found[following] = (before + work, way + [level])
    return found
