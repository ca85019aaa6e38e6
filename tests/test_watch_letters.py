"""Points [44] and [45]: letters, and how they are heard."""

import unittest

from tests.stories import AB, BA, BC, CB, TOO, next_record, three_frame, watch_state
from whensure.errors import CannotBeHeard, InvalidText, NotForThisDevice
from whensure.knowing.known import Known
from whensure.story.texts import read_letter, write_letter
from whensure.watch.watch import Watch

SHOWN = ([0], [0, 0], [])


def three_watches():
    """Return a watch of each device."""
    return [Watch(three_frame(), device) for device in range(3)]


def places_in(text):
    """Return the devices and numbers of a letter's records."""
    return [record[:2] for record in read_letter(text)[4]]


class LetterTest(unittest.TestCase):
    def test_of_a_sent_word(self):
        a, _, _ = three_watches()
        a.note([3])
        event, text = a.send([4], AB, 1)
        self.assertEqual(event, (0, 2))
        self.assertEqual(read_letter(text), (0, 1, AB, 2, (
            (0, 1, (False, (3,), (3,), ("note",), (2, 1, 1))),
            (0, 2, (False, (4,), (4,), ("send", AB, 1), (3, 1, 1))),
        )))

    def test_of_a_told_word(self):
        a, _, _ = three_watches()
        event, text = a.tell([4], TOO)
        self.assertEqual(event, (0, 1))
        self.assertEqual(read_letter(text), (0, 1, TOO, 1, (
            (0, 1, (False, (4,), (4,), ("tell", TOO), (2, 1, 1))),
        )))

    def test_the_records_of_others_that_the_receiver_is_not_known_to_know(self):
        a, b, _ = three_watches()
        b.note([0, 0])
        a.hear([0], b.tell([0, 0], BA)[1])
        self.assertEqual(places_in(a.tell([0], AB)[1]), [(0, 1), (0, 2)])
        b.hear([0, 0], a.again(AB))
        self.assertEqual(places_in(b.tell([0, 0], BC)[1]), [(1, 1), (1, 2), (0, 1), (0, 2), (1, 3), (1, 4)])

    def test_a_word_that_the_receiver_began_anew_against(self):
        a, b, _ = three_watches()
        _, before = a.send([0], AB, 0)
        b.anew([0, 0], [0, 0])
        with self.assertRaises(CannotBeHeard):
            b.hear([0, 0], before)
        a.hear([0], b.tell([0, 0], BA)[1])
        event, text = a.send([0], AB, 0)
        self.assertEqual(b.hear([0, 0], text), (1, 3))
        self.assertEqual(event, (0, 3))


class AgainTest(unittest.TestCase):
    def test_the_last_told_word(self):
        a, b, _ = three_watches()
        self.assertIsNone(a.again(AB))
        a.send([0], AB, 0)
        self.assertIsNone(a.again(AB))
        _, first = a.tell([0], AB)
        a.send([0], TOO, 0)
        self.assertEqual(a.again(AB), first)
        self.assertIsNone(a.again(TOO))
        a.hear([0], b.tell([0, 0], BA)[1])
        _, second = a.tell([0], AB)
        self.assertEqual(a.again(AB), second)
        self.assertNotEqual(first, second)

    def test_as_it_is_now(self):
        a, b, _ = three_watches()
        a.note([0])
        _, sent = a.send([0], TOO, 0)
        _, told = a.tell([0], AB)
        self.assertEqual(places_in(told), [(0, 1), (0, 2), (0, 3)])
        b.hear([0, 0], sent)
        a.hear([0], b.send([0, 0], BA, 0)[1])
        again = a.again(AB)
        self.assertEqual(read_letter(again)[:4], (0, 1, AB, 3))
        # Not what a learned since then either: it is the letter up to the knows of the word's event.
        self.assertEqual(places_in(again), [(0, 3)])
        self.assertEqual(b.hear([0, 0], again), (1, 3))

    def test_not_when_it_was_heard_or_overtaken(self):
        a, b, _ = three_watches()
        _, text = a.tell([0], AB)
        b.hear([0, 0], text)
        self.assertEqual(a.again(AB), text)
        a.hear([0], b.send([0, 0], BA, 0)[1])
        self.assertIsNone(a.again(AB))

    def test_it_changes_nothing(self):
        a, _, _ = three_watches()
        a.tell([0], AB)
        before = watch_state(a)
        self.assertEqual(a.again(AB), a.again(AB))
        self.assertEqual(watch_state(a), before)

    def test_a_watch_that_owes_a_beginning_answers(self):
        a, _, _ = three_watches()
        _, text = a.tell([0], AB)
        a.owes = True
        self.assertEqual(a.again(AB), text)
        self.assertIsNone(a.again(TOO))


class HearTest(unittest.TestCase):
    def refused(self, watch, text, error=CannotBeHeard):
        """Check that a letter is refused and changes nothing."""
        before = watch_state(watch)
        with self.assertRaises(error):
            watch.hear(SHOWN[watch.device], text)
        self.assertEqual(watch_state(watch), before)

    def test_what_becomes_known(self):
        a, b, c = three_watches()
        a.note([3])
        self.assertEqual(b.hear([0, 0], a.send([4], AB, 0)[1]), (1, 1))
        self.assertEqual(b.known_counts, [3, 2, 1])
        self.assertEqual(b.last_made, (False, (0, 0), (0, 0), ("hear", AB, 2), (3, 2, 1)))
        self.assertEqual(c.hear([], b.tell([0, 0], BC)[1]), (2, 1))
        self.assertEqual(c.known_counts, [3, 3, 2])
        self.assertEqual(c.last_made[4], (3, 3, 2))

    def test_twice(self):
        for give in [lambda watch: watch.send([0], AB, 0)[1], lambda watch: watch.tell([0], AB)[1]]:
            a, b, _ = three_watches()
            text = give(a)
            b.hear([0, 0], text)
            self.refused(b, text)
            b.note([0, 0])
            self.refused(b, text)

    def test_told_again_after_it_was_heard(self):
        a, b, _ = three_watches()
        _, text = a.tell([0], AB)
        again = a.again(AB)
        b.hear([0, 0], again)
        self.refused(b, text)

    def test_of_different_sorts_in_another_order(self):
        a, b, _ = three_watches()
        _, told = a.tell([0], AB)
        _, sent = a.send([0], AB, 0)
        self.assertEqual(b.hear([0, 0], sent), (1, 1))
        self.assertEqual(b.known_counts, [3, 2, 1])
        self.assertEqual(b.hear([0, 0], told), (1, 2))
        self.assertEqual(b.last_made[4], (3, 3, 1))

    def test_of_different_links_in_another_order(self):
        a, b, _ = three_watches()
        _, first = a.send([0], AB, 0)
        _, second = a.send([0], TOO, 0)
        b.hear([0, 0], second)
        b.hear([0, 0], first)
        self.assertEqual(b.known_counts, [3, 3, 1])

    def test_a_told_word_that_was_overtaken(self):
        a, b, _ = three_watches()
        _, first = a.tell([0], AB)
        a.hear([0], b.tell([0, 0], BA)[1])
        _, second = a.tell([0], AB)
        b.hear([0, 0], second)
        self.refused(b, first)

    def test_the_first_told_word_and_then_the_second(self):
        a, b, _ = three_watches()
        _, first = a.tell([0], AB)
        a.hear([0], b.tell([0, 0], BA)[1])
        _, second = a.tell([0], AB)
        b.hear([0, 0], first)
        b.hear([0, 0], second)
        self.assertEqual(b.known_counts, [4, 4, 1])

    def test_the_first_letter_is_lost(self):
        a, b, _ = three_watches()
        a.send([0], TOO, 0)
        a.note([0])
        _, text = a.send([0], AB, 0)
        b.hear([0, 0], text)
        self.assertEqual(b.known_counts, [4, 2, 1])

    def test_after_a_promise(self):
        a, b, _ = three_watches()
        _, sent = a.send([0], AB, 0)
        _, told = a.tell([0], AB)
        b.hear([0, 0], told)
        b.promise([0, 0], AB, 2)
        self.refused(b, sent)

    def test_for_another_device(self):
        a, b, c = three_watches()
        _, text = a.send([0], AB, 0)
        for watch in (a, c):
            self.refused(watch, text, NotForThisDevice)
        self.assertEqual(b.hear([0, 0], text), (1, 1))

    def test_late(self):
        a, b, _ = three_watches()
        _, text = a.send([0], AB, 0)
        for number in range(9):
            b.note([number, number])
        self.assertEqual(b.hear([9, 9], text), (1, 10))

    def test_spoilt_texts(self):
        a, b, _ = three_watches()
        a.note([3])
        _, text = a.send([4], AB, 0)
        for spoilt in [text[:-1], text + " ", text.replace("letter", "view"), text.replace(" ", "  ", 1), "",
                       text.replace("4", "04", 1), text.replace("3", "x", 1)]:
            self.refused(b, spoilt, InvalidText)


class WrongLettersTest(unittest.TestCase):
    def setUp(self):
        self.a, self.b, _ = three_watches()
        self.a.note([3])
        _, self.text = self.a.send([4], AB, 0)
        self.letter = read_letter(self.text)

    def refused(self, letter):
        """Check that the watch of b cannot hear a letter, and nothing changes."""
        before = watch_state(self.b)
        with self.assertRaises(CannotBeHeard):
            self.b.hear([0, 0], write_letter(letter))
        self.assertEqual(watch_state(self.b), before)

    def test_the_link(self):
        _, _, _, number, records = self.letter
        for link in [BA, BC, CB, TOO, 5, 77]:
            self.refused((0, 1, link, number, records))

    def test_the_sender(self):
        _, _, _, number, records = self.letter
        for sender in [1, 2, 3, 99]:
            self.refused((sender, 1, AB, number, records))
        self.refused((0, 1, CB, number, records))

    def test_the_number(self):
        _, _, _, _, records = self.letter
        for number in [0, 1, 3, 50]:
            self.refused((0, 1, AB, number, records))

    def test_records_that_are_missing(self):
        first, second = self.letter[4]
        for records in [(), (first,), (second,), (second, first)]:
            self.refused((*self.letter[:4], records))

    def test_a_record_of_a_device_that_does_not_exist(self):
        for device in [3, 8]:
            record = (device, 1, (False, (), (), ("note",), (1, 1, 1)))
            self.refused((*self.letter[:4], (*self.letter[4], record)))
            self.refused((*self.letter[:4], (record, *self.letter[4])))
            self.refused((*self.letter[:4], ((device, 0, record[2]), *self.letter[4])))

    def test_a_record_that_cannot_be_put(self):
        first, second = self.letter[4]
        for wrong in [
            (0, 1, (False, (3, 3), (3,), ("note",), (2, 1, 1))),
            (0, 1, (False, (3,), (3,), ("note",), (2, 2, 1))),
            (0, 1, (False, (3,), (3,), ("mark", 1, 0, 5), (2, 1, 1))),
            (0, 1, (False, (3,), (3,), ("hear", BA, 1), (2, 1, 1))),
        ]:
            self.refused((*self.letter[:4], (wrong, second)))
        self.refused((*self.letter[:4], (first, (0, 2, (False, (4,), (4,), ("tell", BA), (3, 1, 1))))))

    def test_records_beyond_those_of_the_word(self):
        more = (2, 1, (False, (), (), ("note",), (1, 1, 2)))
        self.refused((*self.letter[:4], (*self.letter[4], more)))
        later = (0, 3, (False, (4,), (4,), ("note",), (4, 1, 1)))
        self.refused((*self.letter[:4], (*self.letter[4], later)))

    def test_a_record_that_is_given_twice(self):
        first, second = self.letter[4]
        other = (0, 1, (False, (9,), (9,), ("note",), (2, 1, 1)))
        self.refused((*self.letter[:4], (first, other, second)))
        self.refused((*self.letter[:4], (other, first, second)))
        self.assertEqual(self.b.hear([0, 0], write_letter((*self.letter[:4], (first, first, second, second)))), (1, 1))

    def test_births_are_passed_over_whatever_they_say(self):
        birth = (0, 0, (True, (5,), (), ("tell", 9), (7,)))
        self.assertEqual(self.b.hear([0, 0], write_letter((*self.letter[:4], (birth, *self.letter[4])))), (1, 1))

    def test_a_record_that_differs_from_a_kept_event(self):
        self.b.hear([0, 0], self.text)
        _, text = self.a.tell([5], AB)
        letter = read_letter(text)
        self.assertEqual([record[:2] for record in letter[4]], [(0, 1), (0, 2), (0, 3)])
        self.assertEqual(self.b.known.kept_of(0)[0], 1)
        for place in (0, 1):
            for wrong in [
                (False, (8,), (3,), letter[4][place][2][3], letter[4][place][2][4]),
                (True, *letter[4][place][2][1:]),
                (*letter[4][place][2][:3], ("tell", AB), letter[4][place][2][4]),
                (*letter[4][place][2][:4], (9, 9, 9)),
            ]:
                records = list(letter[4])
                records[place] = (0, place + 1, wrong)
                self.refused((*letter[:4], tuple(records)))
        self.assertEqual(self.b.hear([0, 0], text), (1, 2))

    def test_a_record_that_differs_from_an_event_that_is_not_kept(self):
        frame = three_frame()
        a, b, c = three_watches()
        b.hear([0, 0], a.tell([1], AB)[1])
        c.hear([], b.tell([0, 0], BC)[1])
        b.hear([0, 0], c.tell([], CB)[1])
        a.hear([1], b.tell([0, 0], BA)[1])
        b.hear([0, 0], a.tell([1], AB)[1])
        self.assertGreater(b.known.kept_of(0)[0], 1)
        _, text = a.send([2], AB, 0)
        letter = read_letter(text)
        strange = (0, 1, (True, (77,), (78,), ("commit", 3), (5, 5, 5)))
        self.assertEqual(b.hear([0, 0], write_letter((*letter[:4], (strange, *letter[4])))), (1, 6))
        self.assertEqual(len(frame.devices), 3)

    def test_a_record_of_the_own_device(self):
        own = (1, 1, (False, (0, 0), (0, 0), ("note",), (1, 2, 1)))
        # It is not known to anybody, but it can be put; then the word does not know it, and the hearing does not fit.
        first, second = self.letter[4]
        known = Known(three_frame(), 1)
        for record in (own, first, second):
            known.put_record(record)
        hearing = next_record(known, 1, ("hear", AB, 2))
        self.assertEqual(hearing[:2], (1, 2))
        self.assertEqual(self.b.hear([0, 0], write_letter((*self.letter[:4], (own, first, second)))), (1, 2))
        self.assertEqual(self.b.known_counts, [3, 3, 1])


if __name__ == "__main__":
    unittest.main()
