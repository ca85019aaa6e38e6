"""Points [60], [65] and [66]: the papers that are made."""

import copy
import random
import unittest

from tests.samples import fields_of, mark_view
from tests.worlds import lived_world, small_frame
from whensure.bounds.bounds import view_bounds
from whensure.bounds.points import event_point
from whensure.choices.choices import all_choices, bounds_left, table_of
from whensure.choices.told import view_between
from whensure.errors import NotKept
from whensure.frame.frame import BEGINNING
from whensure.papers import making as module
from whensure.papers.chains import ChainTable
from whensure.papers.judge import judge_paper
from whensure.papers.making import make_paper
from whensure.papers.numbering import point_numbers
from whensure.papers.texts import read_paper

A, B, C, D, START = (0, 0, -1), (0, 1, -1), (0, 2, -1), (0, 3, -1), (-1, 0, -1)


class NumbersTest(unittest.TestCase):
    def test_points(self):
        bounds = [(C, A, 1, 0), (A, D, 2, 1), (D, START, 3, 0)]
        self.assertEqual(point_numbers(bounds, A, B), {A: 0, B: 1, C: 2, D: 3, START: 4})
        self.assertEqual(point_numbers(bounds, START, C), {START: 0, C: 1, A: 2, D: 3})
        self.assertEqual(point_numbers([], D, B), {D: 0, B: 1})

    def test_the_same_point_twice(self):
        bounds = [(C, A, 1, 0), (A, D, 2, 1)]
        self.assertEqual(point_numbers(bounds, A, A), {A: 0, C: 2, D: 3})
        self.assertEqual(point_numbers([], B, B), {B: 0})


class ChainTableTest(unittest.TestCase):
    def test_the_first_of_equal_chains_stays(self):
        table = ChainTable([A, B, C])
        for number, bound in enumerate([(A, C, 5, 0), (A, B, 2, 0), (B, C, 3, 0), (B, C, 3, 0), (A, B, 1, 0)]):
            self.assertTrue(table.put_numbered(number, bound))
            self.assertEqual(table.chain_between(A, C), [0] if number < 4 else [4, 2])
        self.assertEqual((table.distance_between(A, C), table.distance_between(C, A)), (4, None))
        self.assertEqual(table.chain_between(A, A), [])
        self.assertIsNone(table.chain_between(C, A))

    def test_a_chain_of_the_same_sum_through_a_new_bound_does_not_replace_one(self):
        table = ChainTable([A, B, C, D])
        for number, bound in enumerate([(A, B, 1, 0), (C, D, 1, 0), (A, D, 4, 0), (B, C, 2, 0)]):
            self.assertTrue(table.put_numbered(number, bound))
        self.assertEqual((table.chain_between(A, D), table.chain_between(B, D)), ([2], [3, 1]))

    def test_impossible(self):
        table = ChainTable([A, B])
        self.assertTrue(table.put_numbered(0, (A, B, 2, 0)))
        self.assertTrue(table.put_numbered(1, (B, A, -2, 0)))
        self.assertFalse(table.put_numbered(2, (B, A, -3, 0)))
        self.assertEqual((table.distance_between(B, A), table.chain_between(B, A)), (-2, [1]))
        self.assertFalse(table.put_numbered(3, (A, A, -1, 0)))


class TextTest(unittest.TestCase):
    def test_births_only(self):
        frame, view = mark_view()
        # One choice, ends without chains from 0 to 1 and back; one piece with two times, and both of below and above.
        self.assertEqual(make_paper(frame, view, BEGINNING, (0, 0)),
                         "whensure paper\n1 1 0 0 1 0 2 0 0 2 0 0 1 1 0 1 1 1\n")

    def test_the_same_event_twice(self):
        frame, view = mark_view()
        self.assertEqual(make_paper(frame, view, (0, 0), (0, 0)),
                         "whensure paper\n1 1 1 0 1 0 1 0 2 0 0 2 0 0 0 0\n")

    def test_one_mark(self):
        frame, view = mark_view((0, 7))
        # Bounds: 0 from the event to the birth, 0 later; 1 from START to the event, 9 later; 2 back, -7.
        # The points: START 0, the event 1, the birth 2.
        self.assertEqual(read_paper(make_paper(frame, view, BEGINNING, (0, 1))), (
            [("ends", [1], [2])],
            [((), [-7, 0, 0], [-9, 0, 0], None, None)],
        ))
        self.assertEqual(make_paper(frame, view, BEGINNING, (0, 1)),
                         "whensure paper\n1 1 1 1 1 1 1 2 1 0 3 -7 0 0 3 -9 0 0 0 0\n")

    def test_a_missing_end(self):
        frame, view = mark_view((0, 7))
        self.assertEqual(read_paper(make_paper(frame, view, BEGINNING, (0, 0))), (
            [("ends", [1, 0], None)],
            [((), [-9, 0, 0], [-9, 0, 0], [0, 2], None)],
        ))
        self.assertEqual(read_paper(make_paper(frame, view, (0, 0), BEGINNING)), (
            [("ends", None, [1, 0])],
            [((), [0, -9, 0], [0, -9, 0], None, [1, 2])],
        ))

    def test_rings(self):
        frame, view = mark_view((0, 7), (0, 9), (0, 3))
        # Bound 8 says that the third mark is at 5 at most, while the second one is at 9 at least.
        self.assertEqual(read_paper(make_paper(frame, view, BEGINNING, (0, 1))), ([("ring", [7, 6, 5])], []))
        self.assertEqual(make_paper(frame, view, BEGINNING, (0, 1)), "whensure paper\n1 0 3 7 6 5 0\n")

    def test_pieces_of_the_possible_choices_in_order(self):
        frame, view = mark_view((0, 10), (1, 50), (0, 11), faults=1, sources=2)
        entries, pieces = read_paper(make_paper(frame, view, BEGINNING, (0, 3)))
        self.assertEqual([entry[0] for entry in entries], ["ends", "ends"])
        self.assertEqual([piece[0] for piece in pieces], [(0,), (1,)])
        frame, view = mark_view((0, 10), (1, 50), (0, 11), (1, 49), (1, 47), faults=1, sources=3)
        entries, pieces = read_paper(make_paper(frame, view, BEGINNING, (0, 3)))
        self.assertEqual([entry[0] for entry in entries], ["ring", "ends", "ring"])
        self.assertEqual([piece[0] for piece in pieces], [(1,)])


class ErrorsTest(unittest.TestCase):
    def test_not_kept(self):
        frame, view = mark_view((0, 7))
        for event in [(0, 2), (0, -1), (1, 0), (-1, 1), (-2, 0)]:
            for pair in [(event, BEGINNING), (BEGINNING, event), (event, event)]:
                with self.assertRaises(NotKept):
                    make_paper(frame, view, *pair)

    def test_it_is_defined_here(self):
        self.assertEqual(make_paper.__module__, module.__name__)

    def test_what_is_passed_stays_as_it_was(self):
        frame, view = mark_view((0, 7), (0, 9))
        copied = copy.deepcopy(view)
        make_paper(frame, view, (0, 1), (0, 2))
        self.assertEqual((view, fields_of(frame)), (copied, fields_of(mark_view()[0])))


def chains_by_the_words(points, bounds, choice):
    """Return the distances and chains of a choice, or its ring, by going through all pairs of points for each bound."""
    found = {(point, point): (0, []) for point in points}
    for number, (first, second, amount, part) in enumerate(bounds):
        if part in choice:
            continue
        if (second, first) in found and found[second, first][0] + amount < 0:
            return None, [number, *found[second, first][1]]
        news = {}
        for start in points:
            for end in points:
                if (start, first) in found and (second, end) in found:
                    before, behind = found[start, first], found[second, end]
                    amounts = before[0] + amount + behind[0]
                    if (start, end) not in found or amounts < found[start, end][0]:
                        news[start, end] = (amounts, [*before[1], number, *behind[1]])
        found.update(news)
    return found, None


def paper_by_the_words(frame, view, first, second):
    """Return the paper that the document describes, step by step."""
    bounds = view_bounds(frame, view)
    x, y = event_point(first), event_point(second)
    numbers = {x: 0}
    numbers.setdefault(y, 1)
    places = [x, y]
    for point in [point for bound in bounds for point in bound[:2]]:
        if point not in numbers:
            numbers[point] = len(places)
            places.append(point)
    entries, pieces = [], []
    for choice in all_choices(frame.part_count, frame.faults):
        found, ring = chains_by_the_words(list(numbers), bounds, choice)
        if ring is not None:
            entries.append(("ring", ring))
            continue
        there, back = found.get((x, y)), found.get((y, x))
        entries.append(("ends", *[None if cell is None else cell[1] for cell in (there, back)]))
        a, b = None if back is None else -back[0], None if there is None else there[0]

        def times(difference):
            exact = [*bounds_left(bounds, choice), (x, y, difference, -1), (y, x, -difference, -1)]
            table = table_of(exact, list(numbers))
            return [table.time_of(point) for point in places]

        low = a if a is not None else b if b is not None else 0
        high = b if b is not None else a if a is not None else 0
        below = [number for point, number in numbers.items() if (y, point) not in found] if a is None else None
        above = [number for point, number in numbers.items() if (x, point) not in found] if b is None else None
        pieces.append((choice, times(low), times(high), below, above))
    return entries, pieces


class DrawnTest(unittest.TestCase):
    def test_as_the_document_describes_it(self):
        seen = {"ring": 0, "ends": 0, "open": 0}
        for seed in range(120):
            chance = random.Random(seed)
            frame = small_frame(chance, chance.randint(0, 2), devices=2, clocks=2)
            broken = tuple(chance.sample(range(frame.part_count), chance.randint(0, 2)))
            world = lived_world(chance, frame, chance.randint(0, 12), broken)
            first, second = [chance.choice([BEGINNING, *world.events()]) for _ in range(2)]
            paper = read_paper(make_paper(frame, world.view, first, second))
            self.assertEqual(paper, paper_by_the_words(frame, world.view, first, second), seed)
            for entry in paper[0]:
                seen[entry[0]] += 1
            seen["open"] += sum(piece[3] is not None or piece[4] is not None for piece in paper[1])
        self.assertGreater(min(seen.values()), 30, seen)

    def test_every_paper_is_accepted(self):
        for seed in range(150):
            chance = random.Random(seed)
            frame = small_frame(chance, chance.randint(0, 2), devices=chance.randint(1, 3))
            broken = tuple(chance.sample(range(frame.part_count), chance.randint(0, 2)))
            world = lived_world(chance, frame, 30, broken)
            first, second = [chance.choice([BEGINNING, *world.events()]) for _ in range(2)]
            text = make_paper(frame, world.view, first, second)
            judged = judge_paper(frame, world.view, first, second, text)
            self.assertEqual(judged, view_between(frame, world.view, first, second), seed)


if __name__ == "__main__":
    unittest.main()
