"""Point [34]: which records can be put."""

import unittest

from tests.stories import (
    AB, BA, BC, CB, TOO, can_do, next_record, put, shown_by, state_of, three_frame, three_known,
)
from whensure.errors import InvalidRecord
from whensure.frame.frame import Frame
from whensure.knowing.known import Known

EVERY_DEED = [
    ("note",), ("kind", 0, 1), ("mark", 0, 0, -7), ("send", AB, 0), ("tell", AB), ("hear", BA, 1), ("promise", BA, 1),
    ("commit", 9), ("anew", (1,)),
]


def ready_known():
    """Return what is known when the device a can do each deed next."""
    known = three_known()
    put(known, 1, ("tell", BA))
    return known


class KnowsTest(unittest.TestCase):
    def test_expected_of_deeds_that_hear_nothing(self):
        known = ready_known()
        for deed in EVERY_DEED:
            if deed[0] != "hear":
                self.assertEqual(known.expected(0, deed), (2, 1, 1), deed)
        self.assertEqual(known.expected(1, ("note",)), (1, 3, 1))
        self.assertEqual(known.expected(2, ("note",)), (1, 1, 2))

    def test_expected_of_a_word_under_way(self):
        known = ready_known()
        self.assertEqual(known.expected(0, ("hear", BA, 1)), (2, 2, 1))

    def test_expected_of_a_word_by_a_link_that_leads_elsewhere(self):
        known = ready_known()
        self.assertEqual(known.expected(2, ("hear", BA, 1)), (1, 2, 2))
        self.assertFalse(can_do(known, 2, ("hear", BA, 1)))
        put(known, 1, ("note",))
        self.assertEqual(known.expected(1, ("hear", BA, 1)), (1, 4, 1))

    def test_expected_of_a_word_that_is_not_under_way(self):
        known = ready_known()
        for deed in [("hear", BA, 2), ("hear", BA, 0), ("hear", AB, 1), ("hear", 5, 1), ("hear", -1, 1)]:
            self.assertEqual(known.expected(0, deed), (2, 1, 1), deed)

    def test_each_place_has_the_greater_number(self):
        known = three_known()
        put(known, 2, ("note",), ("tell", CB))
        put(known, 1, ("tell", BA), ("hear", CB, 2))
        put(known, 0, ("note",), ("hear", BA, 1), ("tell", AB))
        self.assertEqual(known.knows_of(1), (1, 3, 3))
        self.assertEqual(known.knows_of(0), (4, 2, 1))
        self.assertEqual(known.expected(1, ("hear", AB, 3)), (4, 4, 3))

    def test_the_own_place_has_the_own_number_whatever_the_word_knows(self):
        known = three_known()
        put(known, 0, ("tell", AB))
        put(known, 1, ("hear", AB, 1), ("tell", BA))
        put(known, 0, ("note",), ("note",))
        self.assertEqual(known.expected(0, ("hear", BA, 2)), (5, 3, 1))

    def test_knows_that_differ_at_one_place(self):
        for deed in EVERY_DEED:
            known = ready_known()
            device, number, (asleep, shown, after, _, knows) = next_record(known, 0, deed)
            for place in range(3):
                for step in (-1, 1):
                    other = list(knows)
                    other[place] += step
                    record = (device, number, (asleep, shown, after, deed, tuple(other)))
                    self.assertFalse(known.can_put(record), (deed, other))
            for other in [(), knows[:2], (*knows, 1), knows[::-1]]:
                self.assertFalse(known.can_put((device, number, (asleep, shown, after, deed, other))), (deed, other))
            self.assertTrue(known.can_put((device, number, (asleep, shown, after, deed, knows))), deed)


class PlaceTest(unittest.TestCase):
    def test_each_deed_of_each_number(self):
        for deed in EVERY_DEED:
            known = ready_known()
            _, number, event = next_record(known, 0, deed)
            self.assertEqual(number, 1)
            for other in [-1, 0, 2, 3]:
                self.assertFalse(known.can_put((0, other, event)), (deed, other))
            self.assertTrue(known.can_put((0, 1, event)), deed)

    def test_a_device_that_does_not_exist(self):
        known = ready_known()
        for device in [3, -1, -3, 99]:
            for number in [0, 1, 2]:
                for shown in [(), (0,), (0, 0)]:
                    event = (False, shown, shown, ("note",), (2, 1, 1))
                    self.assertFalse(known.can_put((device, number, event)))

    def test_the_birth_cannot_be_put_again(self):
        known = three_known()
        self.assertFalse(known.can_put((2, 0, (False, (), (), ("note",), (1, 1, 1)))))

    def test_shown_or_after_too_short_or_too_long(self):
        for device, right in [(0, (5,)), (1, (5, 6)), (2, ())]:
            known = three_known()
            knows = known.expected(device, ("note",))
            self.assertTrue(known.can_put((device, 1, (False, right, right, ("note",), knows))))
            for wrong in [right[:-1], (*right, 5), (*right, 5, 5, 5)]:
                if wrong != right:
                    self.assertFalse(known.can_put((device, 1, (False, wrong, right, ("note",), knows))), wrong)
                    self.assertFalse(known.can_put((device, 1, (False, right, wrong, ("note",), knows))), wrong)
                    self.assertFalse(known.can_put((device, 1, (False, wrong, wrong, ("note",), knows))), wrong)

    def test_asleep_and_what_clocks_show_do_not_matter(self):
        known = three_known()
        for asleep in (False, True):
            for shown, after in [((5,), (5,)), ((-5,), (10**17,))]:
                self.assertTrue(known.can_put((0, 1, (asleep, shown, after, ("note",), (2, 1, 1)))))


class SimpleDeedsTest(unittest.TestCase):
    def test_note_and_commit(self):
        for device in range(3):
            self.assertTrue(can_do(three_known(), device, ("note",)))
            for stamp in [0, -9, 10**30]:
                self.assertTrue(can_do(three_known(), device, ("commit", stamp)))

    def test_kind(self):
        known = three_known()
        can = [(device, clock, kind) for device in range(3) for clock in range(-3, 5) for kind in range(-3, 4)
               if can_do(known, device, ("kind", clock, kind))]
        self.assertEqual(can, [(0, 0, 0), (0, 0, 1), (1, 1, 0), (1, 2, 0), (1, 2, 1)])

    def test_mark(self):
        known = three_known()
        can = [(device, source, kind) for device in range(3) for source in range(-2, 3) for kind in range(-3, 4)
               if can_do(known, device, ("mark", source, kind, 5))]
        self.assertEqual(can, [(0, 0, 0), (0, 0, 1)])
        for value in [0, -10**12, 10**12]:
            self.assertTrue(can_do(known, 0, ("mark", 0, 0, value)))

    def test_anew(self):
        known = three_known()
        for device, right, wrong in [
            (0, [(0,), (1,)], [(), (2,), (-1,), (0, 0)]),
            (1, [(0, 0), (0, 1)], [(), (0,), (1, 0), (0, 2), (0, -1), (0, 0, 0)]),
            (2, [()], [(0,)]),
        ]:
            for kinds in right:
                self.assertTrue(can_do(known, device, ("anew", kinds)), kinds)
            for kinds in wrong:
                self.assertFalse(can_do(known, device, ("anew", kinds)), kinds)


class SendTest(unittest.TestCase):
    def test_links_and_kinds(self):
        known = three_known()
        can = [(device, link, kind) for device in range(3) for link in range(-5, 7) for kind in range(-2, 4)
               if can_do(known, device, ("send", link, kind))]
        self.assertEqual(can, [
            (0, AB, 0), (0, AB, 1), (0, TOO, 0), (1, BA, 0), (1, BC, 0), (2, CB, 0),
        ])

    def test_a_sent_word_is_under_way(self):
        known = three_known()
        put(known, 0, ("send", AB, 1))
        self.assertFalse(can_do(known, 0, ("send", AB, 0)))
        self.assertFalse(can_do(known, 0, ("send", AB, 1)))
        self.assertTrue(can_do(known, 0, ("send", TOO, 0)))
        self.assertTrue(can_do(known, 1, ("send", BA, 0)))
        put(known, 1, ("hear", AB, 1))
        self.assertTrue(can_do(known, 0, ("send", AB, 0)))

    def test_a_told_word_under_way_does_not_matter(self):
        known = three_known()
        put(known, 0, ("tell", AB))
        self.assertTrue(can_do(known, 0, ("send", AB, 0)))

    def test_after_a_promise(self):
        known = three_known()
        put(known, 0, ("send", AB, 1))
        put(known, 1, ("promise", AB, 1))
        self.assertFalse(can_do(known, 0, ("send", AB, 0)))
        put(known, 1, ("promise", AB, 2))
        self.assertTrue(can_do(known, 0, ("send", AB, 0)))


class TellTest(unittest.TestCase):
    def test_links(self):
        known = three_known()
        can = [(device, link) for device in range(3) for link in range(-5, 7) if can_do(known, device, ("tell", link))]
        self.assertEqual(can, [(0, AB), (0, TOO), (1, BA), (1, BC), (2, CB)])

    def test_a_sent_word_under_way_does_not_matter(self):
        known = three_known()
        put(known, 0, ("send", AB, 0))
        self.assertTrue(can_do(known, 0, ("tell", AB)))

    def test_a_told_word_is_under_way_and_nothing_was_told_back(self):
        known = three_known()
        put(known, 0, ("tell", AB))
        self.assertFalse(can_do(known, 0, ("tell", AB)))
        self.assertTrue(can_do(known, 0, ("tell", TOO)))

    def test_what_was_told_back_was_heard_before_the_word(self):
        known = three_known()
        put(known, 1, ("tell", BA))
        put(known, 0, ("hear", BA, 1), ("tell", AB))
        self.assertEqual(known.marks(BA)[2], 1)
        self.assertFalse(can_do(known, 0, ("tell", AB)))

    def test_told_heard_at_the_number_of_the_word(self):
        known = three_known()
        put(known, 0, ("tell", AB))
        known.ways[BA].told_heard = 1
        self.assertFalse(can_do(known, 0, ("tell", AB)))
        known.ways[BA].told_heard = 2
        self.assertTrue(can_do(known, 0, ("tell", AB)))

    def test_what_was_told_back_was_heard_after_the_word(self):
        known = three_known()
        put(known, 0, ("tell", AB))
        put(known, 1, ("tell", BA))
        self.assertFalse(can_do(known, 0, ("tell", AB)))
        put(known, 0, ("hear", BA, 1))
        self.assertTrue(can_do(known, 0, ("tell", AB)))
        put(known, 0, ("tell", AB))
        self.assertEqual([word[0] for word in known.words(AB)], [1, 3])

    def test_a_sent_word_that_was_heard_after_it_does_not_matter(self):
        known = three_known()
        put(known, 0, ("tell", AB))
        put(known, 1, ("send", BA, 0))
        put(known, 0, ("hear", BA, 1))
        self.assertFalse(can_do(known, 0, ("tell", AB)))

    def test_two_are_under_way(self):
        known = three_known()
        put(known, 0, ("tell", AB))
        put(known, 1, ("tell", BA))
        put(known, 0, ("hear", BA, 1), ("tell", AB), ("note",))
        known.ways[BA].told_heard = 4
        self.assertFalse(can_do(known, 0, ("tell", AB)))

    def test_a_told_word_back_that_the_device_knows_of_is_under_way(self):
        known = three_known()
        put(known, 0, ("tell", AB), ("tell", TOO))
        put(known, 1, ("tell", BA), ("hear", TOO, 2), ("tell", BC))
        put(known, 0, ("hear", BA, 1))
        put(known, 1, ("tell", BA), ("send", BA, 0))
        # The device does not know yet of what was told back at last.
        self.assertTrue(can_do(known, 0, ("tell", AB)))
        put(known, 0, ("hear", BA, 5))
        self.assertEqual(known.knows_of(0)[1], 6)
        self.assertEqual([word[:2] for word in known.words(BA)], [(4, None)])
        self.assertFalse(can_do(known, 0, ("tell", AB)))
        put(known, 0, ("hear", BA, 4))
        self.assertTrue(can_do(known, 0, ("tell", AB)))

    def test_the_number_of_the_word_back_at_what_is_known(self):
        known = three_known()
        put(known, 0, ("tell", AB))
        put(known, 1, ("tell", BA))
        put(known, 0, ("hear", BA, 1))
        put(known, 1, ("tell", BA))
        self.assertEqual((known.knows_of(0)[1], known.words(BA)[0][0]), (2, 2))
        self.assertTrue(can_do(known, 0, ("tell", AB)))
        known.ways[BA].under_way = [(1, None, (1, 2, 1))]
        self.assertFalse(can_do(known, 0, ("tell", AB)))
        known.ways[BA].under_way = [(1, 0, (1, 2, 1))]
        self.assertTrue(can_do(known, 0, ("tell", AB)))

    def test_by_some_link_back_and_by_no_link_back(self):
        links = [("f", 0, 1, (("k", 0, 1),)), ("g", 1, 0, (("k", 0, 1),)), ("h", 1, 0, (("k", 0, 1),))]
        for heard_by, other in [(1, 2), (2, 1)]:
            known = Known(Frame(["a", "b"], [], links, [], 0), 0)
            put(known, 0, ("tell", 0))
            put(known, 1, ("tell", heard_by))
            put(known, 0, ("hear", heard_by, 1))
            self.assertTrue(can_do(known, 0, ("tell", 0)))
            put(known, 1, ("tell", other), ("send", heard_by, 0))
            self.assertTrue(can_do(known, 0, ("tell", 0)))
            put(known, 0, ("hear", heard_by, 3))
            self.assertFalse(can_do(known, 0, ("tell", 0)))

    def test_links_between_other_devices_do_not_matter(self):
        known = three_known()
        put(known, 1, ("tell", BC))
        put(known, 2, ("tell", CB))
        put(known, 1, ("hear", CB, 1))
        self.assertTrue(can_do(known, 1, ("tell", BC)))
        put(known, 1, ("tell", BA))
        self.assertFalse(can_do(known, 1, ("tell", BA)))


class HearTest(unittest.TestCase):
    def test_only_a_word_that_is_under_way_by_a_link_to_the_device(self):
        known = three_known()
        put(known, 0, ("note",), ("send", AB, 0), ("tell", AB))
        put(known, 2, ("send", CB, 0))
        can = [(device, link, number) for device in range(3) for link in range(-5, 7) for number in range(-1, 6)
               if can_do(known, device, ("hear", link, number))]
        self.assertEqual(can, [(1, AB, 2), (1, AB, 3), (1, CB, 1)])

    def test_a_word_that_was_heard(self):
        known = three_known()
        put(known, 0, ("send", AB, 0), ("tell", AB))
        put(known, 1, ("hear", AB, 1))
        self.assertFalse(can_do(known, 1, ("hear", AB, 1)))
        self.assertTrue(can_do(known, 1, ("hear", AB, 2)))

    def test_a_word_that_was_overtaken(self):
        known = three_known()
        put(known, 0, ("tell", AB))
        put(known, 1, ("tell", BA))
        put(known, 0, ("hear", BA, 1), ("tell", AB))
        put(known, 1, ("hear", AB, 3))
        self.assertFalse(can_do(known, 1, ("hear", AB, 1)))


class PromiseTest(unittest.TestCase):
    def test_bounds_and_links(self):
        known = three_known()
        put(known, 0, ("note",), ("note",))
        can = [(device, link, number) for device in range(3) for link in range(-5, 7) for number in range(-2, 6)
               if can_do(known, device, ("promise", link, number))]
        self.assertEqual(can, [
            (0, BA, 1),
            (1, AB, 1), (1, AB, 2), (1, AB, 3), (1, CB, 1), (1, TOO, 1), (1, TOO, 2), (1, TOO, 3),
            (2, BC, 1),
        ])

    def test_not_at_the_floor_and_not_below(self):
        known = three_known()
        put(known, 0, ("note",), ("note",), ("note",))
        put(known, 1, ("promise", AB, 2))
        self.assertEqual([at for at in range(7) if can_do(known, 1, ("promise", AB, at))], [3, 4])
        self.assertEqual([at for at in range(7) if can_do(known, 1, ("promise", TOO, at))], [1, 2, 3, 4])

    def test_not_below_a_sent_word_that_was_heard(self):
        known = three_known()
        put(known, 0, ("note",), ("send", AB, 0), ("note",))
        put(known, 1, ("hear", AB, 2))
        self.assertEqual([at for at in range(7) if can_do(known, 1, ("promise", AB, at))], [4])

    def test_told_words_do_not_matter(self):
        known = three_known()
        put(known, 0, ("note",), ("tell", AB), ("note",))
        put(known, 1, ("hear", AB, 2))
        self.assertEqual([at for at in range(7) if can_do(known, 1, ("promise", AB, at))], [1, 2, 3, 4])


class PutRecordTest(unittest.TestCase):
    def test_a_record_that_cannot_be_put(self):
        for deed in [("kind", 1, 0), ("mark", 1, 0, 1), ("send", BA, 0), ("tell", BA), ("hear", BA, 1),
                     ("promise", BA, 2), ("anew", ()), ("anew", (2,))]:
            known = three_known()
            with self.assertRaises(InvalidRecord):
                known.put_record(next_record(known, 0, deed))
            self.assertEqual(state_of(known), state_of(three_known()), deed)

    def test_each_condition(self):
        event = (False, (1,), (1,), ("note",), (2, 1, 1))
        for record in [
            (3, 1, event), (-3, 1, event), (0, 2, event), (0, 0, event),
            (0, 1, (False, (), (1,), ("note",), (2, 1, 1))),
            (0, 1, (False, (1,), (1, 2), ("note",), (2, 1, 1))),
            (0, 1, (False, (1,), (1,), ("note",), (2, 2, 1))),
        ]:
            known = three_known()
            self.assertIs(known.can_put(record), False)
            with self.assertRaises(InvalidRecord):
                known.put_record(record)
            self.assertEqual(state_of(known), state_of(three_known()))

    def test_can_put_changes_nothing(self):
        for deed in EVERY_DEED:
            known = ready_known()
            before = state_of(known)
            self.assertIs(known.can_put(next_record(known, 0, deed)), True)
            self.assertEqual(state_of(known), before)

    def test_any_device_whoever_the_owner_is(self):
        for owner in range(3):
            for device in range(3):
                known = three_known(owner)
                put(known, device, ("note",))
                self.assertEqual(known.counts[device], 2)

    def test_shown_fits_each_device(self):
        known = three_known()
        self.assertEqual([len(shown_by(known, device)) for device in range(3)], [1, 2, 0])
        self.assertEqual(len(three_frame().clocks), 3)


if __name__ == "__main__":
    unittest.main()
