"""Points [35] and [36]: what a record that is put changes."""

import unittest

from tests.stories import AB, BA, BC, CB, TOO, can_do, next_record, put, state_of, three_frame, three_known
from whensure.bounds.bounds import event_bounds, first_hands
from whensure.frame.frame import Frame
from whensure.knowing.known import Known


def numbers_of(known, link):
    """Return the numbers of the words under way by a link."""
    return [word[0] for word in known.words(link)]


class EveryDeedTest(unittest.TestCase):
    def test_counts_and_knows(self):
        known = three_known()
        put(known, 1, ("note",), ("note",))
        put(known, 2, ("commit", 1))
        self.assertEqual(known.counts, [1, 3, 2])
        self.assertEqual([known.knows_of(device) for device in range(3)], [(1, 1, 1), (1, 3, 1), (1, 1, 2)])

    def test_knows_after_a_word_was_heard(self):
        known = three_known()
        put(known, 2, ("tell", CB))
        put(known, 1, ("hear", CB, 1), ("tell", BA))
        put(known, 0, ("hear", BA, 2))
        self.assertEqual(known.knows_of(0), (2, 3, 2))

    def test_hands_of_each_device(self):
        known = three_known()
        hands = first_hands(three_frame(), 1)
        for deed, numbers in [
            (("note",), (3, 4)), (("kind", 2, 1), (3, 5)), (("note",), (4, 5)), (("anew", (0, 0)), (4, 9)),
        ]:
            record = (1, known.counts[1], (False, numbers, numbers, deed, known.expected(1, deed)))
            _, hands = event_bounds(three_frame(), record, hands, None)
            known.put_record(record)
            self.assertEqual(known.hands_of(1), hands)
        self.assertEqual(hands, [((1, 4, -1), 4, 0), ((1, 4, -1), 9, 0)])
        self.assertEqual(known.hands_of(0), [(None, 0, 0)])

    def test_the_hand_of_a_clock_that_is_set(self):
        known = three_known()
        known.put_record((0, 1, (False, (5,), (8,), ("note",), (2, 1, 1))))
        self.assertEqual(known.hands_of(0), [((0, 1, -1), 8, 0)])

    def test_deeds_that_change_nothing_else(self):
        for device, deed in [(0, ("note",)), (0, ("kind", 0, 1)), (0, ("mark", 0, 0, 5))]:
            known = three_known()
            put(known, device, deed)
            self.assertEqual([known.words(link) for link in range(5)], [[]] * 5)
            self.assertEqual([known.marks(link) for link in range(5)], [(0, 0, 0, 0)] * 5)
            self.assertEqual(known.commits, [])


class WordsTest(unittest.TestCase):
    def test_words_under_way_ascend(self):
        known = three_known()
        put(known, 0, ("tell", AB), ("send", AB, 1), ("tell", TOO), ("send", TOO, 0))
        self.assertEqual(known.words(AB), [(1, None, (2, 1, 1)), (2, 1, (3, 1, 1))])
        self.assertEqual(known.words(TOO), [(3, None, (4, 1, 1)), (4, 0, (5, 1, 1))])
        self.assertEqual(known.words(BA), [])
        self.assertEqual([known.marks(link) for link in range(5)], [(0, 0, 0, 0)] * 5)

    def test_a_sent_word_is_heard(self):
        known = three_known()
        put(known, 0, ("tell", AB), ("note",), ("send", AB, 1))
        put(known, 1, ("hear", AB, 3))
        self.assertEqual(known.words(AB), [(1, None, (2, 1, 1))])
        self.assertEqual(known.marks(AB), (4, 0, 0, 0))

    def test_a_told_word_is_heard(self):
        known = three_known()
        put(known, 0, ("send", AB, 1), ("tell", AB))
        put(known, 1, ("note",), ("hear", AB, 2))
        self.assertEqual(known.words(AB), [(1, 1, (2, 1, 1))])
        self.assertEqual(known.marks(AB), (0, 3, 2, 0))
        self.assertEqual(known.marks(TOO), (0, 0, 0, 0))

    def two_told(self):
        """Return what is known when two told words are under way from a to b, and one that was sent between them."""
        known = three_known()
        put(known, 0, ("tell", AB))
        put(known, 1, ("tell", BA))
        put(known, 0, ("hear", BA, 1), ("send", AB, 0), ("tell", AB))
        self.assertEqual(known.words(AB), [(1, None, (2, 1, 1)), (3, 0, (4, 2, 1)), (4, None, (5, 2, 1))])
        return known

    def test_the_first_of_two_told_words_is_heard(self):
        known = self.two_told()
        put(known, 1, ("hear", AB, 1))
        self.assertEqual(numbers_of(known, AB), [3, 4])
        self.assertEqual(known.marks(AB), (0, 2, 2, 0))
        put(known, 1, ("hear", AB, 4))
        self.assertEqual(numbers_of(known, AB), [3])
        self.assertEqual(known.marks(AB), (0, 5, 3, 0))

    def test_the_second_of_two_told_words_overtakes_the_first(self):
        known = self.two_told()
        put(known, 1, ("hear", AB, 4))
        self.assertEqual(numbers_of(known, AB), [3])
        self.assertEqual(known.marks(AB), (0, 5, 2, 0))

    def test_a_sent_word_overtakes_no_told_word(self):
        known = self.two_told()
        put(known, 1, ("hear", AB, 3))
        self.assertEqual(numbers_of(known, AB), [1, 4])
        self.assertEqual(known.marks(AB), (4, 0, 0, 0))


class PromiseTest(unittest.TestCase):
    def test_sent_words_below_are_gone(self):
        for number, left in [(1, [1, 2]), (2, [1, 2]), (3, [1])]:
            known = three_known()
            put(known, 0, ("tell", AB), ("send", AB, 0))
            put(known, 1, ("promise", AB, number))
            self.assertEqual(numbers_of(known, AB), left)
            self.assertEqual(known.marks(AB), (number, 0, 0, 0))
            self.assertEqual(known.marks(TOO), (0, 0, 0, 0))


class CommitsTest(unittest.TestCase):
    def test_they_ascend(self):
        known = three_known()
        put(known, 1, ("commit", 5), ("commit", -3))
        put(known, 0, ("commit", 5), ("note",), ("commit", 9), ("commit", 5), ("commit", 0))
        put(known, 2, ("commit", 5))
        self.assertEqual(known.commits, [
            (-3, 1, 2), (0, 0, 5), (5, 0, 1), (5, 0, 4), (5, 1, 1), (5, 2, 1), (9, 0, 3),
        ])


class AnewTest(unittest.TestCase):
    def test_needs_of_each_link_to_the_device(self):
        known = three_known()
        put(known, 1, ("note",), ("anew", (0, 0)))
        self.assertEqual([known.marks(link)[3] for link in range(5)], [3, 0, 0, 3, 3])
        put(known, 0, ("anew", (0,)))
        self.assertEqual([known.marks(link)[3] for link in range(5)], [3, 2, 0, 3, 3])

    def test_sent_words_that_know_too_little_are_gone(self):
        known = three_known()
        put(known, 0, ("send", AB, 0), ("tell", AB), ("send", TOO, 0))
        put(known, 2, ("send", CB, 0))
        put(known, 1, ("send", BA, 0), ("anew", (0, 0)))
        self.assertEqual([numbers_of(known, link) for link in range(5)], [[2], [1], [], [], []])

    def test_sent_words_that_know_the_event_before_are_gone(self):
        known = three_known()
        put(known, 1, ("tell", BA))
        put(known, 0, ("hear", BA, 1), ("send", AB, 0))
        self.assertEqual(known.words(AB), [(2, 0, (3, 2, 1))])
        put(known, 1, ("anew", (0, 0)))
        self.assertEqual(known.words(AB), [])

    def test_a_word_that_knows_too_little_is_not_under_way(self):
        known = three_known()
        put(known, 1, ("anew", (0, 0)), ("tell", BA), ("note",))
        put(known, 0, ("send", AB, 0))
        self.assertEqual(known.words(AB), [])
        self.assertTrue(can_do(known, 0, ("send", AB, 0)))
        put(known, 0, ("tell", AB))
        self.assertEqual(known.words(AB), [(2, None, (3, 1, 1))])

    def test_a_word_that_knows_just_enough_is_under_way(self):
        known = three_known()
        put(known, 1, ("anew", (0, 0)), ("tell", BA), ("note",))
        put(known, 0, ("hear", BA, 2), ("send", AB, 0))
        self.assertEqual(known.words(AB), [(2, 0, (3, 3, 1))])
        late = three_known()
        put(late, 1, ("tell", BA))
        put(late, 0, ("hear", BA, 1))
        put(late, 1, ("anew", (0, 0)))
        put(late, 0, ("send", AB, 0))
        self.assertEqual(late.knows_of(0)[1], 2)
        self.assertEqual(late.marks(AB)[3], 3)
        self.assertEqual(late.words(AB), [])

    def test_only_the_receiver_counts(self):
        known = three_known()
        put(known, 0, ("note",), ("anew", (0,)))
        put(known, 1, ("send", BC, 0))
        self.assertEqual(numbers_of(known, BC), [1])


class KeptTest(unittest.TestCase):
    def test_events_of_each_device_that_others_do_not_know(self):
        known = three_known(0)
        put(known, 0, ("note",), ("tell", AB))
        put(known, 1, ("note",))
        put(known, 2, ("note",))
        events = [known.kept_of(device) for device in range(3)]
        self.assertEqual([(first, len(kept)) for first, kept in events], [(1, 2), (1, 1), (1, 1)])
        self.assertEqual(events[0][1], [
            (False, (0,), (0,), ("note",), (2, 1, 1)), (False, (0,), (0,), ("tell", AB), (3, 1, 1)),
        ])

    def test_until_every_other_device_is_known_to_know_them(self):
        known = three_known(0)
        put(known, 0, ("note",), ("tell", AB))
        put(known, 1, ("hear", AB, 2), ("tell", BC))
        self.assertEqual([known.kept_of(device)[0] for device in range(3)], [1, 1, 1])
        put(known, 2, ("hear", BC, 2), ("tell", CB))
        self.assertEqual(known.knows_of(2), (3, 3, 3))
        self.assertEqual([(known.kept_of(device)[0], len(known.kept_of(device)[1])) for device in range(3)],
                         [(3, 0), (3, 0), (1, 2)])
        put(known, 1, ("hear", CB, 2))
        self.assertEqual([(known.kept_of(device)[0], len(known.kept_of(device)[1])) for device in range(3)],
                         [(3, 0), (3, 1), (3, 0)])

    def test_what_the_owner_knows_does_not_matter(self):
        first = []
        for owner in range(3):
            known = three_known(owner)
            put(known, 0, ("note",), ("tell", AB))
            put(known, 1, ("hear", AB, 2), ("tell", BA))
            first.append([known.kept_of(device)[0] for device in range(3)])
        self.assertEqual(first, [[1, 1, 1], [1, 1, 1], [3, 1, 1]])

    def test_two_devices(self):
        links = [("ab", 0, 1, (("k", 0, 1),)), ("ba", 1, 0, (("k", 0, 1),))]
        known = Known(Frame(["a", "b"], [], links, [], 0), 0)
        put(known, 0, ("note",), ("tell", 0), ("note",))
        put(known, 1, ("note",))
        self.assertEqual(known.kept_of(0)[0], 1)
        self.assertEqual(known.kept_of(1), (2, []))
        put(known, 1, ("hear", 0, 2))
        self.assertEqual(known.kept_of(0), (3, [(False, (), (), ("note",), (4, 1))]))
        self.assertEqual(known.kept_of(1), (3, []))

    def test_a_frame_with_one_device(self):
        known = Known(Frame(["a"], [], [], [("s", 0, (("k", 0, 0),))], 0), 0)
        put(known, 0, ("note",), ("mark", 0, 0, 4), ("commit", 4))
        self.assertEqual(known.kept_of(0), (4, []))
        self.assertEqual((known.counts, known.commits, known.knows_of(0)), ([4], [(4, 0, 3)], (4,)))

    def test_what_is_kept_equals_what_was_put(self):
        known = three_known(2)
        records = []
        for device, deed in [(0, ("send", AB, 0)), (1, ("note",)), (0, ("note",)), (1, ("hear", AB, 1))]:
            records.append(next_record(known, device, deed, 4))
            known.put_record(records[-1])
        for device in (0, 1):
            first, kept = known.kept_of(device)
            expected = [event for place, number, event in records if place == device and number >= first]
            self.assertEqual(kept, expected)
        self.assertEqual([known.kept_of(device)[0] for device in range(3)], [2, 1, 1])
        self.assertEqual(state_of(known)[1], [3, 3, 1])


if __name__ == "__main__":
    unittest.main()
