"""Point [33] and fork: what a device knows."""

import unittest

from tests.samples import fields_of
from tests.stories import AB, BA, CB, TOO, next_record, put, state_of, three_frame, three_known
from whensure.frame.frame import Frame
from whensure.knowing import known as module
from whensure.knowing.known import Known


class InterfaceTest(unittest.TestCase):
    def test_it_is_defined_here_with_all_that_the_interface_lists(self):
        self.assertEqual(Known.__module__, module.__name__)
        names = "knows_of hands_of words marks kept_of expected can_put put_record records_for fork"
        for name in names.split():
            self.assertTrue(callable(vars(Known)[name]), name)

    def test_fields(self):
        frame = three_frame()
        known = Known(frame, 2)
        self.assertIs(known.frame, frame)
        self.assertEqual((known.owner, known.counts, known.commits), (2, [1, 1, 1], []))
        self.assertIs(type(known.counts), list)
        self.assertIs(type(known.commits), list)

    def test_put_record_returns_nothing(self):
        known = three_known()
        self.assertIsNone(known.put_record(next_record(known, 0, ("note",))))


class AtFirstTest(unittest.TestCase):
    def test_only_the_births_are_known(self):
        for owner in range(3):
            known = three_known(owner)
            self.assertEqual(known.counts, [1, 1, 1])
            for device, clocks in [(0, 1), (1, 2), (2, 0)]:
                self.assertEqual(known.knows_of(device), (1, 1, 1))
                self.assertEqual(known.hands_of(device), [(None, 0, 0)] * clocks)

    def test_nothing_is_under_way_and_all_marks_are_0(self):
        known = three_known()
        for link in range(5):
            self.assertEqual(known.words(link), [])
            self.assertEqual(known.marks(link), (0, 0, 0, 0))

    def test_the_births_are_not_kept(self):
        known = three_known()
        self.assertEqual([known.kept_of(device) for device in range(3)], [(1, []), (1, []), (1, [])])

    def test_a_frame_with_one_device(self):
        known = Known(Frame(["a"], [("c", 0, False, (("k", 1, 1),))], [], [], 0), 0)
        self.assertEqual(state_of(known), (0, [1], [], [(1,)], [[(None, 0, 0)]], [], [], [(1, [])]))


def busy_known():
    """Return what a device knows after something of each sort happened."""
    known = three_known(1)
    put(known, 0, ("send", AB, 1), ("tell", AB), ("kind", 0, 1), ("commit", 7), ("send", TOO, 0))
    put(known, 1, ("hear", AB, 1), ("send", BA, 0), ("commit", -5))
    put(known, 0, ("promise", BA, 2))
    put(known, 2, ("note",), ("send", CB, 0), ("tell", CB))
    put(known, 1, ("hear", CB, 3))
    put(known, 0, ("anew", (1,)))
    return known


class ListsTest(unittest.TestCase):
    def test_lists_that_are_returned_are_new(self):
        known = busy_known()
        before = state_of(known)
        for device in range(3):
            known.hands_of(device).clear()
            known.kept_of(device)[1].clear()
        for link in range(5):
            known.words(link).clear()
        known.records_for(2, tuple(known.counts)).clear()
        self.assertEqual(state_of(known), before)

    def test_what_is_passed_stays_as_it_was(self):
        known = busy_known()
        self.assertEqual(fields_of(known.frame), fields_of(three_frame()))

    def test_the_knows_are_tuples(self):
        known = busy_known()
        self.assertTrue(all(type(known.knows_of(device)) is tuple for device in range(3)))
        self.assertIs(type(known.expected(0, ("note",))), tuple)
        self.assertIs(type(known.marks(AB)), tuple)


class ForkTest(unittest.TestCase):
    def test_it_has_all_marks(self):
        marks = [busy_known().fork().marks(link) for link in range(5)]
        self.assertEqual(marks, [(2, 0, 0, 0), (2, 0, 0, 8), (0, 0, 0, 0), (0, 4, 4, 0), (0, 0, 0, 0)])

    DEEDS = [
        (0, ("note",)), (0, ("commit", 3)), (0, ("kind", 0, 0)), (0, ("tell", TOO)), (1, ("hear", AB, 2)),
        (1, ("hear", TOO, 5)), (1, ("hear", CB, 2)), (1, ("promise", AB, 5)), (1, ("anew", (0, 1))),
        (2, ("send", CB, 0)), (0, ("anew", (1,))),
    ]

    def test_it_is_equal(self):
        known = busy_known()
        self.assertEqual(state_of(known.fork()), state_of(known))
        self.assertIsInstance(known.fork(), Known)
        self.assertEqual(state_of(three_known(2).fork()), state_of(three_known(2)))

    def test_it_stays_when_the_first_one_changes(self):
        for device, deed in self.DEEDS:
            known = busy_known()
            if not known.can_put(next_record(known, device, deed)):
                self.assertEqual(deed, ("send", CB, 0))
                continue
            fork = known.fork()
            put(known, device, deed)
            self.assertEqual(state_of(fork), state_of(busy_known()), deed)
            self.assertNotEqual(state_of(known), state_of(fork))

    def test_the_first_one_stays_when_it_changes(self):
        for device, deed in self.DEEDS:
            known = busy_known()
            fork = known.fork()
            if fork.can_put(next_record(fork, device, deed)):
                put(fork, device, deed)
                self.assertEqual(state_of(known), state_of(busy_known()), deed)

    def test_lists_of_the_fields_are_independent(self):
        known = busy_known()
        fork = known.fork()
        fork.counts[0] = 99
        fork.commits.clear()
        self.assertEqual(state_of(known), state_of(busy_known()))

    def test_both_go_on_alike(self):
        known = busy_known()
        fork = known.fork()
        for device, deed in self.DEEDS:
            if known.can_put(next_record(known, device, deed)):
                put(known, device, deed)
                put(fork, device, deed)
            self.assertEqual(state_of(known), state_of(fork))


if __name__ == "__main__":
    unittest.main()
