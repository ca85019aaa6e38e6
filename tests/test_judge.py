"""Points [61] to [64] and [66]: the judge of papers."""

import copy
import random
import unittest

from tests.samples import fields_of, mark_view
from tests.worlds import lived_world, small_frame
from whensure.bounds.bounds import view_bounds
from whensure.choices.told import view_between
from whensure.errors import NotKept
from whensure.frame.frame import BEGINNING, Frame
from whensure.papers import judge as module
from whensure.papers.judge import judge_paper
from whensure.papers.making import make_paper
from whensure.papers.texts import read_paper, write_paper
from whensure.story.events import first_view


class PapersByHandTest(unittest.TestCase):
    """Papers about the beginning and a mark of 7.

    The bounds: 0 from the event to the birth, 0 later; 1 from START to the event, 9 later; 2 back, 7 earlier.
    The points: 0 START, 1 the event, 2 the birth.
    """

    ENTRY = ("ends", [1], [2])
    PIECE = ((), [0, 7], [0, 9], None, None)

    def judged(self, entries, pieces, first=BEGINNING, second=(0, 1)):
        """Return what the judge says of a paper with these entries and pieces."""
        return judge_paper(*mark_view((0, 7)), first, second, write_paper((entries, pieces)))

    def test_accepted(self):
        self.assertEqual(self.judged([self.ENTRY], [self.PIECE]), [(7, 9)])

    def test_other_instants_that_meet_all_bounds(self):
        for low, high in [
            ([5, 12, 12], [5, 14, -99]), ([0, 7, 7], [0, 9, 9, 5, 6]), ([0, 7, -10**12], [-9]), ([-7], [-9, 0, 0]),
            ([0, 7, 6, -4, 10**30], [10**30, 10**30 + 9]),
        ]:
            self.assertEqual(self.judged([self.ENTRY], [((), low, high, None, None)]), [(7, 9)], (low, high))

    def test_no_instants_are_all_at_0(self):
        frame = Frame(["a"], [], [], [("s", 0, (("k", 0, 0),))], 0)
        text = write_paper(([("ends", None, None)], [((), [], [], [0], [1])]))
        self.assertEqual(judge_paper(frame, first_view(frame), BEGINNING, (0, 0), text), [(None, None)])

    def test_instants_that_miss_a_bound(self):
        for wrong in [[0, 6], [0, 10], [], [0, 7, 8], [1, 7], [0]]:
            for low, high in [(wrong, [0, 9]), ([0, 7], wrong)]:
                self.assertIsNone(self.judged([self.ENTRY], [((), low, high, None, None)]), (low, high))

    def test_low_above_high(self):
        self.assertIsNone(self.judged([self.ENTRY], [((), [0, 9], [0, 7], None, None)]))
        self.assertIsNone(self.judged([self.ENTRY], [((), [0, 9], [0, 7], None, None), self.PIECE]))

    def test_chains(self):
        for there, back in [([1], [2]), ([1, 2, 1], [2]), ([1], [2, 1, 2])]:
            wide = [((), [0, 7], [0, 9], None, None)]
            stretch_fits = (there, back) == ([1], [2])
            self.assertEqual(self.judged([("ends", there, back)], wide), [(7, 9)] if stretch_fits else None)

    def test_chains_that_break_off(self):
        for there in [[], [2], [0], [1, 1], [1, 0], [0, 1], [2, 1], [1, 2]]:
            self.assertIsNone(self.judged([("ends", there, [2])], [self.PIECE]), there)
        for back in [[], [1], [0], [2, 2], [2, 0], [0, 2], [1, 2], [2, 1]]:
            self.assertIsNone(self.judged([("ends", [1], back)], [self.PIECE]), back)

    def test_a_number_of_no_bound(self):
        for number in [3, 4, 99, 10**20]:
            for entry in [("ends", [number], [2]), ("ends", [1], [number]), ("ends", [1, number], [2]),
                          ("ring", [number]), ("ring", [1, number]), ("ring", [number, 1])]:
                self.assertIsNone(self.judged([entry], [self.PIECE]), entry)

    def test_an_end_that_is_beyond(self):
        for low, high in [([0, 8], [0, 9]), ([0, 7], [0, 8]), ([0, 8], [0, 8])]:
            self.assertIsNone(self.judged([self.ENTRY], [((), low, high, None, None)]))

    def test_several_pieces_are_joined(self):
        low, high = ((), [0, 7], [0, 7], None, None), ((), [0, 8], [0, 9], None, None)
        for pieces in [[low, high], [high, low], [low, high, self.PIECE]]:
            self.assertEqual(self.judged([self.ENTRY], pieces), [(7, 9)])
        top = ((), [0, 9], [0, 9], None, None)
        self.assertIsNone(self.judged([self.ENTRY], [low, top]))
        self.assertIsNone(self.judged([self.ENTRY], []))

    def test_ends_that_are_missing(self):
        for entry in [("ends", None, [2]), ("ends", [1], None), ("ends", None, None)]:
            self.assertIsNone(self.judged([entry], [self.PIECE]), entry)

    def test_rings(self):
        for ring in [[], [1], [1, 2], [2, 1], [0], [2, 2]]:
            self.assertIsNone(self.judged([("ring", ring)], [self.PIECE]), ring)
            self.assertIsNone(self.judged([("ring", ring)], []), ring)

    def test_as_many_entries_as_choices(self):
        for entries in [[], [self.ENTRY, self.ENTRY], [self.ENTRY, ("ring", [])]]:
            self.assertIsNone(self.judged(entries, [self.PIECE]))

    def test_choices_of_pieces(self):
        for choice in [(0,), (1,), (0, 0)]:
            self.assertIsNone(self.judged([self.ENTRY], [(choice, *self.PIECE[1:])]), choice)
            self.assertIsNone(self.judged([self.ENTRY], [self.PIECE, (choice, *self.PIECE[1:])]), choice)

    def test_what_cannot_rise(self):
        # A bound leads from START to the event and back.
        for below, above in [([0], None), ([0, 2], None), ([0, 1, 2], None), ([], None), ([2], None),
                             (None, [1]), (None, [1, 2]), (None, [0, 1, 2]), (None, []), (None, [0])]:
            self.assertIsNone(self.judged([self.ENTRY], [(*self.PIECE[:3], below, above)]), (below, above))


class OpenPiecesTest(unittest.TestCase):
    """Papers about the beginning and the birth before a mark of 7: points 0 START, 1 the birth, 2 the event."""

    def judged(self, below, above=None, entry=("ends", [1, 0], None)):
        """Return what the judge says of a paper with a piece that has no least number."""
        piece = ((), [-9], [-9], below, above)
        return judge_paper(*mark_view((0, 7)), BEGINNING, (0, 0), write_paper(([entry], [piece])))

    def test_below(self):
        for below in [[0, 2], [2, 0], [0, 2, 0], [0, 2, 3, 99]]:
            self.assertEqual(self.judged(below), [(None, 9)], below)

    def test_below_that_does_not_fit(self):
        for below in [
            [],            # without START
            [2],
            [0],           # the event's bound leads to START, so START cannot rise without it
            [0, 1, 2],     # with the birth
            [1],
        ]:
            self.assertIsNone(self.judged(below), below)

    def test_it_is_needed(self):
        self.assertIsNone(self.judged(None))

    def test_above_that_does_not_fit(self):
        for above in [[1], [1, 2], [0, 1, 2], [], [2]]:
            self.assertIsNone(self.judged([0, 2], above), above)

    def test_above(self):
        entry = ("ends", None, [1, 0])
        for above, expected in [([1, 2], [(-9, None)]), ([2, 1, 77], [(-9, None)]), ([1], None), ([0, 1, 2], None)]:
            piece = ((), [0, -9], [0, -9], None, above)
            text = write_paper(([entry], [piece]))
            self.assertEqual(judge_paper(*mark_view((0, 7)), (0, 0), BEGINNING, text), expected, above)

    def test_low_and_high_do_not_count_where_a_side_is_open(self):
        entry = ("ends", [1, 0], None)
        for low in [[-9], [-9, -500], [-9, 0, 0, 7], [0, 0, 7], [0, -3, 8]]:
            piece = ((), low, [-9], [0, 2], None)
            text = write_paper(([entry], [piece]))
            self.assertEqual(judge_paper(*mark_view((0, 7)), BEGINNING, (0, 0), text), [(None, 9)], low)

    def test_a_given_end_that_is_not_the_stretch_end(self):
        for high, expected in [([0, 9, 9], [(None, 9)]), ([0, 8, 8], None)]:
            text = write_paper(([("ends", [1, 0], None)], [((), [0, -99, 8], high, [0, 2], None)]))
            self.assertEqual(judge_paper(*mark_view((0, 7)), BEGINNING, (0, 0), text), expected)


class SeveralChoicesTest(unittest.TestCase):
    """Two sources of which one can be broken say 7 and 57 of two events; the questions are about the second one.

    The bounds: 0 from the first event to the birth; 1 and 2 of the first source, 9 and -7; 3 from the second event to
    the first one, 0; 4 and 5 of the second source, 59 and -57. The points: 0 START, 1 the second event, 2 the first
    one, 3 the birth.
    """

    ENTRIES = [("ends", [4], [5]), ("ends", None, [3, 2])]
    # A stretch of (7, None) contains the other one.
    OPEN = ((1,), [0, 7, 7], [0, 7, 7], None, [1])

    def judged(self, entries, pieces):
        """Return what the judge says of a paper."""
        frame, view = mark_view((0, 7), (1, 57), faults=1, sources=2)
        return judge_paper(frame, view, BEGINNING, (0, 2), write_paper((entries, pieces)))

    def test_one_piece_can_do_for_both(self):
        frame, view = mark_view((0, 7), (1, 57), faults=1, sources=2)
        self.assertEqual(view_between(frame, view, BEGINNING, (0, 2)), [(7, None)])
        self.assertEqual(self.judged(self.ENTRIES, [self.OPEN]), [(7, None)])

    def test_a_bound_of_a_chosen_part(self):
        for entries in [
            [("ends", [1], [5]), self.ENTRIES[1]], [("ends", [4], [3, 2]), self.ENTRIES[1]],
            [self.ENTRIES[0], ("ends", [4], [3, 2])], [self.ENTRIES[0], ("ends", None, [5])],
            [("ring", [1, 2]), self.ENTRIES[1]],
        ]:
            self.assertIsNone(self.judged(entries, [self.OPEN]), entries)

    def test_the_order_of_the_entries(self):
        self.assertIsNone(self.judged(self.ENTRIES[::-1], [self.OPEN]))

    def test_the_choice_of_a_piece(self):
        # With the first source chosen, the second one keeps the event from rising.
        self.assertIsNone(self.judged(self.ENTRIES, [((0,), *self.OPEN[1:])]))
        self.assertIsNone(self.judged(self.ENTRIES, [((0,), [0, 57], [0, 59], None, None)]))
        piece = ((0,), [0, 57], [0, 59], None, None)
        self.assertEqual(self.judged(self.ENTRIES, [piece, self.OPEN]), [(7, None)])
        for choice in [(), (2,), (0, 1), (1, 0)]:
            self.assertIsNone(self.judged(self.ENTRIES, [self.OPEN, (choice, *piece[1:])]), choice)

    def test_a_piece_that_does_not_fit_beside_one_that_is_enough(self):
        self.assertIsNone(self.judged(self.ENTRIES, [self.OPEN, ((0,), [0, 56], [0, 59], None, None)]))

    def test_ends_lie_in_one_of_the_joined_stretches(self):
        frame, view = mark_view((0, 7), (1, 57), (0, 7), faults=1, sources=2)
        text = make_paper(frame, view, BEGINNING, (0, 3))
        entries, pieces = read_paper(text)
        expected = [(7, 9), (57, None)]
        self.assertEqual(judge_paper(frame, view, BEGINNING, (0, 3), text), expected)
        for left in [pieces[:1], pieces[1:], []]:
            self.assertIsNone(judge_paper(frame, view, BEGINNING, (0, 3), write_paper((entries, left))))
        # Two stretches that do not touch do not hold one that reaches from the one into the other.
        self.assertIsNotNone(entries[1][1])
        open_ends = [entries[0], ("ends", None, entries[1][2])]
        self.assertIsNone(judge_paper(frame, view, BEGINNING, (0, 3), write_paper((open_ends, pieces))))


class RingsTest(unittest.TestCase):
    """Marks of 7 and then 3.

    The bounds: 1 and 2 of the first event; 3 from the second event to the first one; 4 and 5 of the second event.
    """

    def judged(self, entries, pieces=()):
        """Return what the judge says of a paper about the beginning and the second event."""
        frame, view = mark_view((0, 7), (0, 3))
        return judge_paper(frame, view, BEGINNING, (0, 2), write_paper((entries, list(pieces))))

    def test_any_ring_below_0(self):
        for ring in [[4, 3, 2], [3, 2, 4], [2, 4, 3], [4, 3, 2, 4, 3, 2], [1, 2, 4, 3, 2, 4, 3, 2]]:
            self.assertEqual(self.judged([("ring", ring)]), [], ring)

    def test_rings_that_are_none(self):
        for ring in [[], [4], [4, 3], [4, 3, 2, 4], [3, 4, 2], [4, 5], [1, 2], [4, 3, 1], [4, 2], [99], [4, 3, 99]]:
            self.assertIsNone(self.judged([("ring", ring)]), ring)

    def test_a_ring_whose_sum_is_0(self):
        frame, view = mark_view((0, 7), (0, 5))
        text = write_paper(([("ring", [4, 3, 2])], []))
        self.assertIsNone(judge_paper(frame, view, BEGINNING, (0, 2), text))
        frame, view = mark_view((0, 7), (0, 4))
        self.assertEqual(judge_paper(frame, view, BEGINNING, (0, 2), text), [])

    def test_ends_of_an_impossible_choice_need_a_stretch(self):
        self.assertIsNone(self.judged([("ends", [4], [3, 2])]))

    def test_a_piece_of_an_impossible_choice_does_not_fit(self):
        for low in [[0, 7, 7], [0, 5, 5], [0, 3, 3], []]:
            self.assertIsNone(self.judged([("ring", [4, 3, 2])], [((), low, low, None, None)]))


class SameEventTest(unittest.TestCase):
    def judged(self, entries, pieces, event=(0, 1)):
        """Return what the judge says of a paper about an event and itself: the points 0, then 2 the birth, 3 START."""
        return judge_paper(*mark_view((0, 7)), event, event, write_paper((entries, pieces)))

    def test_accepted(self):
        piece = ((), [7, 7, 0, 0], [7, 7, 0, 0], None, None)
        self.assertEqual(self.judged([("ends", [], [])], [piece]), [(0, 0)])
        self.assertEqual(self.judged([("ends", [2, 1], [])], [piece]), None)
        self.assertIsNone(self.judged([("ends", None, [])], [piece]))

    def test_the_first_number_counts(self):
        for low in [[7, 99], [9, -5, 3, 0]]:
            self.assertEqual(self.judged([("ends", [], [])], [((), low, [8], None, None)]), [(0, 0)])
        self.assertIsNone(self.judged([("ends", [], [])], [((), [6, 7], [8], None, None)]))

    def test_nothing_is_open(self):
        for points in [[0, 2, 3], [0], [1], [0, 1, 2, 3]]:
            for below, above in [(points, None), (None, points)]:
                self.assertIsNone(self.judged([("ends", [], [])], [((), [7], [7], below, above)]))


class TextsTest(unittest.TestCase):
    def test_texts_that_deviate_in_one_character(self):
        frame, view = mark_view((0, 7), (1, 57), faults=1, sources=2)
        text = make_paper(frame, view, BEGINNING, (0, 2))
        expected = view_between(frame, view, BEGINNING, (0, 2))
        self.assertEqual(judge_paper(frame, view, BEGINNING, (0, 2), text), expected)
        right = 0
        for at in range(len(text) + 1):
            for sign in ["", " ", "0", "1", "-", "\n", "x"]:
                for changed in [text[:at] + sign + text[at:], text[:at] + sign + text[at + 1:]]:
                    judged = judge_paper(frame, view, BEGINNING, (0, 2), changed)
                    self.assertIn(judged, [None, expected])
                    right += judged is not None and changed != text
        # Another instant can be right, too; all else is refused.
        self.assertLess(right, 200)

    def test_no_papers(self):
        frame, view = mark_view((0, 7))
        text = make_paper(frame, view, BEGINNING, (0, 1))
        for wrong in [
            "", "\n", "whensure paper\n", "whensure paper\n\n", text[:-1], text + "\n", text.upper(), " " + text,
            text.replace("paper", "view"), text.replace("\n", " \n", 2), text + "0\n", text.replace(" 0", " -0"),
            text.replace(" 0", " 00", 1),
        ]:
            self.assertIsNone(judge_paper(frame, view, BEGINNING, (0, 1), wrong), wrong)

    def test_forty_digits(self):
        frame, view = mark_view((0, 7))
        for digits, expected in [(39, [(7, 9)]), (40, [(7, 9)]), (41, None)]:
            far = int("9" * digits)
            for sign in (1, -1):
                words = f"whensure paper\n1 1 1 1 1 1 1 2 1 0 2 0 7 4 0 9 0 {sign * far} 0 0\n"
                self.assertEqual(judge_paper(frame, view, BEGINNING, (0, 1), words), expected, digits)

    def test_integers_below_0(self):
        frame, view = mark_view((0, 7))
        right = "whensure paper\n1 1 1 1 1 1 1 2 1 0 2 0 7 2 0 9 0 0\n"
        self.assertEqual(judge_paper(frame, view, BEGINNING, (0, 1), right), [(7, 9)])
        for wrong in ["1 1 1 1 -1 1 1 2 1 0 2 0 7 2 0 9 0 0", "1 1 1 1 1 1 1 2 -1 0 2 0 7 2 0 9 0 0",
                      "1 1 1 1 1 1 1 2 1 0 2 0 7 2 0 9 1 1 -1 0"]:
            self.assertIsNone(judge_paper(frame, view, BEGINNING, (0, 1), f"whensure paper\n{wrong}\n"))


class ErrorsTest(unittest.TestCase):
    def test_not_kept(self):
        frame, view = mark_view((0, 7))
        text = make_paper(frame, view, BEGINNING, (0, 1))
        for event in [(0, 2), (0, -1), (1, 0), (-1, 1), (-2, 0)]:
            for pair in [(event, BEGINNING), (BEGINNING, event), (event, event)]:
                for paper in [text, "no paper"]:
                    with self.assertRaises(NotKept):
                        judge_paper(frame, view, *pair, paper)

    def test_it_is_defined_here(self):
        self.assertEqual(judge_paper.__module__, module.__name__)

    def test_what_is_passed_stays_as_it_was(self):
        frame, view = mark_view((0, 7))
        copied = copy.deepcopy(view)
        judge_paper(frame, view, BEGINNING, (0, 1), make_paper(frame, view, BEGINNING, (0, 1))).clear()
        self.assertEqual((view, fields_of(frame)), (copied, fields_of(mark_view()[0])))


class SoundTest(unittest.TestCase):
    def test_changed_papers_are_refused_or_show_the_same(self):
        results = {True: 0, False: 0}
        for seed in range(60):
            chance = random.Random(seed)
            frame = small_frame(chance, chance.randint(0, 1), devices=2, clocks=2)
            broken = tuple(chance.sample(range(frame.part_count), chance.randint(0, 1)))
            world = lived_world(chance, frame, 12, broken)
            first, second = [chance.choice([BEGINNING, *world.events()]) for _ in range(2)]
            text = make_paper(frame, world.view, first, second)
            expected = view_between(frame, world.view, first, second)
            many = len(view_bounds(frame, world.view))
            for _ in range(40):
                words = text.split("\n")[1].split(" ")
                for _ in range(chance.randint(1, 2)):
                    at = chance.randrange(len(words))
                    words[at] = str(int(words[at]) + chance.choice([-1, 1, chance.randint(-many, many)]))
                judged = judge_paper(frame, world.view, first, second, f"whensure paper\n{' '.join(words)}\n")
                self.assertIn(judged, [None, expected], seed)
                results[judged is None] += 1
        self.assertGreater(min(results.values()), 200, results)


if __name__ == "__main__":
    unittest.main()
