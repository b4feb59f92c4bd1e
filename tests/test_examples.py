"""The examples of the document, of all stages."""

import doctest
import unittest

EXAMPLES = """
>>> from turnweights.devices import Device
>>> device = Device.parse("2 10\\n1 0 1\\n2 0 2\\n2 1 4")
>>> [device.top, device.base, device.weights()]
[2, 10, {(1, 0): 1, (2, 0): 2, (2, 1): 4}]

>>> from turnweights.memories import memory_of
>>> [memory_of(3, [3, 1, 2, 1, 2]), memory_of(3, [2, 3, 0, 1]), memory_of(3, [1, 0])]
[(3, 1, 2), (1,), ()]

>>> from turnweights.memories import joined, met
>>> [joined(3, (3, 1), (2,)), met(3, (3, 1), (2,))]
[(3, 1, 2), (2, 1)]

>>> from turnweights.devices import Device
>>> from turnweights.outputs import curves, output_after
>>> device = Device.parse("2 10\\n1 0 1\\n2 0 2\\n2 1 4")
>>> [curves(device), output_after(device, [2, 1])]
[{(1, 1): 11, (2, 1): 13, (2, 2): 17}, 13]

>>> from turnweights.measures import bars, fit, whole_fit
>>> measures = [([4, 1], 0), ([3, 2], 0), ([3, 1], 0), ([5, 1, 4, 2], 1), ([4, 2, 3], 0), ([5, 1, 3], 0)]
>>> [bars(5, measures), fit(5, measures) is None, whole_fit(5, measures)]
[None, False, None]

>>> from turnweights.machines import Machine, judged
>>> first = Machine(1, [(0, [0, 1]), (5, [0, 1])])
>>> other = Machine(1, [(0, [0, 1]), (5, [0, 2]), (6, [0, 2])])
>>> [judged(first)[1].weights(), judged(other)[0], sorted(judged(other)[2])]
[{(1, 0): 5}, 'bars', [-1, 1]]

>>> from turnweights.devices import Device
>>> from turnweights.work import loop_work, work_at
>>> device = Device.parse("2 10\\n1 0 1\\n2 0 2\\n2 1 4")
>>> [work_at(device, (), [2, 1, 2, 0]), loop_work(device, 1, 2), loop_work(device, 0, 2)]
[13, 4, 9]

>>> from turnweights.ways import distance, shortest_way
>>> [distance(3, (3, 1, 2), (3, 2)), shortest_way(3, (3, 1, 2), (3, 2))]
[2, [3, 2]]

>>> from turnweights.devices import Device
>>> from turnweights.unseen import alike_memories, parting_levels
>>> device = Device.parse("2 0\\n1 0 3\\n2 0 -3\\n2 1 3")
>>> [alike_memories(device), parting_levels(device, (1,), (2, 1))]
[[[()], [(1,)], [(2,)], [(2, 1)]], []]

>>> from turnweights.tapes import effect
>>> [effect(3, [1, 2, 1]), effect(3, [1, 2, 0, 2, 1])]
[[2, 1], [0, 2, 1]]

>>> from turnweights.devices import Device
>>> from turnweights.live import Live
>>> live = Live(Device.parse("2 0\\n2 1 1"))
>>> [live.step(2), live.change_weight((2, 1), 5), live.step(1), live.work(), live.sheet()]
[2, -8, -5, -3, [('change', (2, 1), -8)]]

>>> from turnweights.places import place_of
>>> [place_of(4, (3, 1)), place_of(4, (3, 1, 2)), place_of(4, (4, 2)), place_of(4, (4,))]
[(3, 0), (3, 1), (5, 2), (7, 3)]

>>> from turnweights.places import are_crossings
>>> histories = [[3, 1], [2], [3, 1, 2], [2, 1]]
>>> are_crossings(3, histories, [-1, -1, 1, 1], [((3, 1), (2,), -1)])
True

>>> from turnweights.wide import wide_bars, wide_fit
>>> records = [([3, 1], 0, 1), ([4, 1, 2], 0, 1), ([3, 1, 2], 5, 6)]
>>> [wide_bars(4, records, False), wide_fit(4, records, True), wide_fit(4, records, False) is None]
[None, None, False]

>>> from turnweights.wide import are_wide_bars
>>> records = [([3, 1], 0, 1), ([4, 1, 2], 0, 1), ([3, 1, 2], 5, 6)]
>>> [are_wide_bars(4, records, [0, -1, 1], rising) for rising in (False, True)]
[False, True]

>>> from turnweights.stretches import stretch
>>> records = [([3, 1], 0, 0), ([2], 0, 0), ([3, 1, 2], 0, 0), ([2, 1], 1, 1)]
>>> stretch(3, records, False)
(1, 4)

>>> from turnweights.ranges import span
>>> records = [([3, 1], 0, 1), ([4, 1, 2], 0, 1), ([3, 1, 2], 5, 6)]
>>> [span(4, records, [4, 1], False), span(2, [([2], 0, 10)], [1], True)]
[(-6, -3), (None, 10)]

>>> from turnweights.desks import Desk
>>> desk = Desk(1, False)
>>> [desk.put([], 0, 1), desk.put([1], 3, 4), desk.put([0], 2, 2), desk.torn(), desk.take_out(0), desk.span([1, 0])]
[0, 1, 2, [0, 2], None, (2, 2)]
"""


class ExamplesTest(unittest.TestCase):
    def test_examples(self):
        test = doctest.DocTestParser().get_doctest(EXAMPLES, {}, "the document", None, 0)
        self.assertEqual(len(test.examples), 54)
        told = []
        doctest.DocTestRunner().run(test, out=told.append)
        self.assertEqual("".join(told), "")


if __name__ == "__main__":
    unittest.main()
