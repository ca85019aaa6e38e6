"""The making of papers, which show what is returned about two events of a view."""

from whensure.choices.choice_tables import frame_choices
from whensure.choices.told import check_in_view
from whensure.papers.chains import ChainTable
from whensure.papers.numbering import Question
from whensure.papers.texts import write_paper


def fill_table(table, bounds, choice):
    """Put the bounds that the choice leaves into a table; return the ring that makes them impossible, or None."""
    for number, bound in enumerate(bounds):
        if bound[3] not in choice and not table.put_numbered(number, bound):
            return [number, *table.chain_between(bound[1], bound[0])]
    return None


def time_by(table, times, point, start, amount, end):
    """Return the time of a point if a bound from start to end is put in, too; times are those before it."""
    onward = table.distance_between(end, point)
    return times[point] if onward is None else min(times[point], times[start] + amount + onward)


def times_with(table, question, difference):
    """Return the list of the times of the points, by their numbers, if the second event is this much later."""
    first = question.first
    second = question.second
    # The two bounds that say so need not be put into a table: as each undoes the other, no shortest chain has both.
    before = table.least_distances()
    times = {}
    for point in question.numbers:
        there = time_by(table, before, point, first, difference, second)
        times[point] = min(there, time_by(table, before, point, second, -difference, first))
    others = [point for point in times if point not in (first, second)]
    return [times[point] for point in [first, second, *others]]


def not_reached(table, question, start):
    """Return the ascending list of the numbers of the points to which no chain leads from a point."""
    return [number for point, number in question.numbers.items() if table.distance_between(start, point) is None]


def piece_of(table, question, choice):
    """Return the piece of a possible choice."""
    back = table.distance_between(question.second, question.first)
    greatest = table.distance_between(question.first, question.second)
    least = None if back is None else -back
    ends = [end for end in (least, greatest) if end is not None]
    low = times_with(table, question, ends[0] if ends else 0)
    high = times_with(table, question, ends[-1] if ends else 0)
    below = not_reached(table, question, question.second) if least is None else None
    above = not_reached(table, question, question.first) if greatest is None else None
    return (choice, low, high, below, above)


def paper_of(frame, question):
    """Return the paper that shows what is returned."""
    entries = []
    pieces = []
    for choice in frame_choices(frame):
        table = ChainTable(question.numbers)
        ring = fill_table(table, question.bounds, choice)
        if ring is not None:
            entries.append(("ring", ring))
        else:
            there = table.chain_between(question.first, question.second)
            entries.append(("ends", there, table.chain_between(question.second, question.first)))
            pieces.append(piece_of(table, question, choice))
    return (entries, pieces)


def make_paper(frame, view, first, second):
    """Return the text of a paper about two events of a view. Raise NotKept if one is not in the view."""
    check_in_view(view, [first, second])
    return write_paper(paper_of(frame, Question(frame, view, first, second)))
