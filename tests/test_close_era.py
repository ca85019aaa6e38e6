"""Point [46]: an era is closed."""

import itertools
import random
import unittest

from tests.runs import Run, answers_of
from tests.stories import three_frame, watch_state
from tests.worlds import small_frame
from whensure.choices.choices import all_choices
from whensure.choices.stretches import holds_number
from whensure.errors import NothingPossible
from whensure.frame.frame import BEGINNING, Frame
from whensure.watch.watch import Watch


def source_watch(faults, values):
    """Return the watch of a device with three sources that can be wrong by 1, of which some said these values."""
    sources = [(name, 0, (("k", 1, 1),)) for name in ("s", "t", "u")]
    watch = Watch(Frame(["a"], [], [], sources, faults), 0)
    for source, value in values:
        watch.mark([], source, 0, value)
        watch.pin(watch.live[-1])
    return watch


class CloseEraTest(unittest.TestCase):
    def test_with_several_tables(self):
        watch = source_watch(1, [(0, 10), (1, 50), (0, 11)])
        self.assertEqual(watch.choices, [(0,), (1,)])
        self.assertEqual(watch.between(BEGINNING, (0, 1)), [(None, 51)])
        self.assertEqual(watch.between(BEGINNING, (0, 3)), [(10, 12), (49, None)])
        self.assertIsNone(watch.close_era())
        self.assertEqual(watch.choices, [(0,), (1,), (2,)])
        self.assertEqual(watch.between(BEGINNING, (0, 3)), [(10, None)])
        self.assertEqual(watch.between((0, 1), (0, 2)), [(0, None)])
        self.assertEqual(watch.surely_broken, [])

    def test_the_greatest_distance_of_all_tables(self):
        watch = source_watch(1, [(0, 10), (1, 12), (2, 14), (0, 15)])
        tables = [table for _, table in watch.tables.pairs]
        points = tables[0].points
        expected = {}
        for pair in itertools.product(points, repeat=2):
            distances = [table.distance(*pair) for table in tables]
            expected[pair] = None if None in distances else max(distances)
        watch.close_era()
        for choice, table in watch.tables.pairs:
            self.assertEqual(table.points, points)
            self.assertEqual({pair: table.distance(*pair) for pair in expected}, expected, choice)

    def test_with_one_table(self):
        watch = source_watch(1, [(0, 50), (1, 20), (2, 30)])
        self.assertEqual((watch.choices, watch.surely_broken), ([(0,)], [0]))
        before = answers_of(watch)
        watch.close_era()
        self.assertEqual((watch.choices, watch.surely_broken), ([(0,), (1,), (2,)], []))
        self.assertEqual(answers_of(watch), before)

    def test_with_none(self):
        watch = source_watch(0, [(0, 50), (1, 20)])
        self.assertEqual(watch.choices, [])
        before = watch_state(watch)
        with self.assertRaises(NothingPossible):
            watch.close_era()
        self.assertEqual(watch_state(watch), before)

    def test_without_faults(self):
        watch = source_watch(0, [(0, 50), (1, 51)])
        before = answers_of(watch)
        watch.close_era()
        self.assertEqual((watch.choices, answers_of(watch)), ([()], before))

    def test_at_first(self):
        watch = Watch(three_frame(2), 0)
        watch.close_era()
        self.assertEqual(watch_state(watch), watch_state(Watch(three_frame(2), 0)))

    def test_the_tables_are_independent(self):
        watch = source_watch(1, [(0, 10)])
        watch.close_era()
        watch.mark([], 0, 0, 90)
        watch.mark([], 0, 0, 30)
        self.assertEqual(watch.choices, [(0,)])
        self.assertEqual(watch.between(BEGINNING, (0, 3)), [(None, None)])

    def test_what_is_known_and_pinned_stays(self):
        watch = source_watch(1, [(0, 10), (1, 50), (0, 11)])
        before = watch_state(watch)
        watch.close_era()
        after = watch_state(watch)
        self.assertEqual(before[:5], after[:5])
        self.assertEqual(before[7], after[7])

    def test_an_era_in_which_other_parts_are_broken(self):
        watch = source_watch(1, [(0, 50), (1, 20), (2, 21)])
        watch.close_era()
        self.assertEqual(watch.between(BEGINNING, (0, 3)), [(20, 22)])
        watch.mark([], 0, 0, 30)
        watch.mark([], 1, 0, 10)
        watch.mark([], 2, 0, 33)
        self.assertEqual(watch.choices, [(1,)])
        self.assertEqual(watch.between(BEGINNING, (0, 6)), [(32, 34)])


class DrawnTest(unittest.TestCase):
    def test_the_true_difference_is_returned_if_another_source_is_broken_in_each_era(self):
        closed, told = 0, 0
        for seed in range(80):
            chance = random.Random(seed)
            frame = small_frame(chance, 1, devices=2, clocks=2, sources=3)
            run = Run(frame, chance)
            for step in range(50):
                if step % 10 == 0:
                    for watch in run.watches:
                        watch.close_era()
                        closed += 1
                        self.assertEqual(watch.choices, all_choices(frame.part_count, 1))
                    # What was given in the last era stays there.
                    run.letters.clear()
                    run.broken = (frame.source_part(chance.randrange(3)),)
                run.step()
            for watch in run.watches:
                for pair, stretches in answers_of(watch).items():
                    self.assertTrue(holds_number(stretches, run.difference(*pair)), (seed, pair))
                    told += stretches not in ([(0, 0)], [(None, None)])
        self.assertGreater(closed, 700)
        self.assertGreater(told, 500)


if __name__ == "__main__":
    unittest.main()
