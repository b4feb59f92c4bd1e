"""Live devices: weights and a base that are changed, while levels go on."""

from turnweights.devices import Device
from turnweights.errors import BadLevels, BadSwitch, BadWeight
from turnweights.marks import Marks
from turnweights.memories import is_level, is_switch, moved
from turnweights.outputs import output_with
from turnweights.values import is_small_integer
from turnweights.work import loop_work, loops_closed_by, work_at


class Live:
    """A base and weights of now, a memory, the work so far and its sheet."""

    def __init__(self, device):
        self._top = device.top
        self._base = device.base
        self._weights = device.weights()
        self._memory = ()
        self._work = 0
        self._sheet = []
        self._marks = Marks()

    def device(self):
        """A device with the base and weights of now."""
        return Device(self._top, self._base, self._weights)

    def memory(self):
        """The memory."""
        return self._memory

    def output(self):
        """The output by the base and weights of now."""
        return output_with(self.device(), self._memory)

    def work(self):
        """The work so far."""
        return self._work

    def sheet(self):
        """A new list of the entries of the sheet."""
        return list(self._sheet)

    def step(self, level):
        """Goes to a level; returns the work of it; raises BadLevels(0)."""
        if not is_level(self._top, level):
            raise BadLevels(0)
        device = self.device()
        work = work_at(device, self._memory, [level])
        for low, high in loops_closed_by(self._memory, level):
            self._sheet.append(("loop", (low, high), loop_work(device, low, high)))
        self._memory = moved(self._memory, level)
        self._work += work
        return work

    def change_weight(self, switch, weight):
        """Changes a weight; returns the amount for the sheet; raises BadSwitch(), then BadWeight()."""
        if not is_switch(self._top, switch):
            raise BadSwitch()
        _check_weight(weight)
        before = self._work_of_memory()
        self._weights[switch] = weight
        amount = before - self._work_of_memory()
        self._sheet.append(("change", switch, amount))
        return amount

    def change_base(self, base):
        """Changes the base; raises BadWeight()."""
        _check_weight(base)
        self._base = base

    def mark(self):
        """Sets a mark; returns its number."""
        weights = {switch: self._weights[switch] for switch in self._weights}
        return self._marks.keep((self._base, weights, self._memory, self._work, self.sheet()))

    def back(self, number):
        """Goes back to a mark; raises UnknownMark(number)."""
        base, weights, memory, work, sheet = self._marks.kept(number)
        self._base = base
        self._weights = {switch: weights[switch] for switch in weights}
        self._memory = memory
        self._work = work
        self._sheet = list(sheet)

    def _work_of_memory(self):
        """The work of the memory by the weights of now."""
        return work_at(self.device(), (), list(self._memory))


def _check_weight(value):
    """Raises BadWeight() if any value may be no weight and no base."""
    if not is_small_integer(value):
        raise BadWeight()
