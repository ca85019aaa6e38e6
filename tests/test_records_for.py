"""Point [37]: the records for a receiver."""

import random
import unittest

from tests.stories import AB, BA, BC, CB, can_do, next_record, put, state_of, three_known


def places_of(records):
    """Return the devices and numbers of records."""
    return [record[:2] for record in records]


class RecordsForTest(unittest.TestCase):
    def test_nothing_at_first(self):
        known = three_known(1)
        for receiver in (0, 2):
            self.assertEqual(known.records_for(receiver, (1, 1, 1)), [])

    def test_up_to_the_knows(self):
        known = three_known(0)
        records = []
        for _ in range(3):
            records.append(next_record(known, 0, ("note",)))
            known.put_record(records[-1])
        for many in range(1, 5):
            self.assertEqual(known.records_for(1, (many, 1, 1)), records[:many - 1])
            self.assertEqual(known.records_for(2, (many, 1, 1)), records[:many - 1])

    def test_not_what_the_receiver_is_known_to_know(self):
        known = three_known(0)
        put(known, 0, ("note",), ("tell", AB), ("note",))
        put(known, 1, ("note",), ("hear", AB, 2), ("note",))
        knows = tuple(known.counts)
        self.assertEqual(places_of(known.records_for(1, knows)), [(0, 3)])
        self.assertEqual(places_of(known.records_for(2, knows)), [(0, 1), (0, 2), (0, 3), (1, 1), (1, 2), (1, 3)])

    def test_knows_below_what_the_receiver_knows(self):
        known = three_known(0)
        put(known, 0, ("note",), ("tell", AB), ("note",))
        put(known, 1, ("hear", AB, 2))
        self.assertEqual(known.records_for(1, (1, 1, 1)), [])
        self.assertEqual(places_of(known.records_for(2, (2, 1, 1))), [(0, 1)])

    def test_the_first_device_that_can_be_taken_is(self):
        known = three_known(0)
        put(known, 2, ("note",), ("tell", CB))
        put(known, 1, ("note",), ("hear", CB, 2), ("tell", BA))
        put(known, 0, ("note",), ("hear", BA, 3), ("note",))
        # The event (0, 2) builds on (1, 3), and (1, 2) on (2, 2).
        self.assertEqual(places_of(known.records_for(2, tuple(known.counts))), [
            (0, 1), (1, 1), (1, 2), (1, 3), (0, 2), (0, 3),
        ])
        self.assertEqual(places_of(known.records_for(1, tuple(known.counts))), [(0, 1), (0, 2), (0, 3)])
        other = three_known(1)
        for place in [(2, 1), (2, 2), (1, 1), (1, 2), (1, 3), (0, 1), (0, 2), (0, 3)]:
            deed = {(2, 2): ("tell", CB), (1, 2): ("hear", CB, 2), (1, 3): ("tell", BA), (0, 2): ("hear", BA, 3)}
            put(other, place[0], deed.get(place, ("note",)))
        self.assertEqual(places_of(other.records_for(0, tuple(other.counts))), [])
        self.assertEqual(places_of(other.records_for(0, (1, 4, 3))), [])

    def test_a_device_goes_on_after_a_later_one_was_needed(self):
        known = three_known(1)
        put(known, 1, ("tell", BA), ("tell", BC))
        put(known, 0, ("note",), ("hear", BA, 1), ("tell", AB))
        put(known, 1, ("hear", AB, 3), ("note",))
        self.assertEqual(places_of(known.records_for(2, tuple(known.counts))), [
            (0, 1), (1, 1), (0, 2), (0, 3), (1, 2), (1, 3), (1, 4),
        ])

    def test_an_event_that_builds_on_more_than_the_knows_say_stays_away(self):
        known = three_known(1)
        put(known, 1, ("tell", BA))
        put(known, 0, ("note",), ("hear", BA, 1), ("note",))
        self.assertEqual(places_of(known.records_for(2, (4, 1, 1))), [(0, 1)])
        self.assertEqual(places_of(known.records_for(2, (4, 2, 1))), [(0, 1), (1, 1), (0, 2), (0, 3)])

    def test_knows_as_they_are_stays_and_nothing_changes(self):
        known = three_known(0)
        put(known, 0, ("note",), ("note",))
        before = state_of(known)
        known.records_for(1, (3, 1, 1)).clear()
        self.assertEqual(state_of(known), before)


def by_the_words_of_the_document(known, events, receiver, knows):
    """Return the records for a receiver, from a dict of all events, as slowly as the document describes them."""
    have = known.knows_of(receiver)
    wanted = {place for place in events if have[place[0]] <= place[1] < knows[place[0]]}
    taken, found = set(), []
    while True:
        for device in range(len(knows)):
            left = sorted(place for place in wanted - taken if place[0] == device)
            if left:
                named = {(other, at) for other, many in enumerate(events[left[0]][4]) for at in range(many)}
                if all(at < have[other] or (other, at) in taken | {left[0]} for other, at in named):
                    taken.add(left[0])
                    found.append((*left[0], events[left[0]]))
                    break
        else:
            return found


class DrawnTest(unittest.TestCase):
    def test_drawn_stories(self):
        lengths = []
        for seed in range(150):
            chance = random.Random(seed)
            known = three_known(chance.randrange(3))
            events = {}
            for _ in range(chance.randint(1, 14)):
                device = chance.randrange(3)
                deeds = [("note",)] + [("tell", link) for link in (AB, BA, BC, CB)] * 2
                deeds += [("hear", link, word[0]) for link in range(4) for word in known.words(link)] * 4
                deed = chance.choice([deed for deed in deeds if can_do(known, device, deed)])
                record = next_record(known, device, deed)
                events[record[:2]] = record[2]
                known.put_record(record)
            for receiver in range(3):
                if receiver != known.owner:
                    for knows in [tuple(known.counts), known.knows_of(known.owner),
                                  tuple(chance.randint(1, many) for many in known.counts)]:
                        records = known.records_for(receiver, knows)
                        expected = by_the_words_of_the_document(known, events, receiver, knows)
                        self.assertEqual(records, expected, seed)
                        lengths.append(len(records))
        self.assertGreater(sum(length > 3 for length in lengths), 100)


if __name__ == "__main__":
    unittest.main()
