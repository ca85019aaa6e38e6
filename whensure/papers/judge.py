"""The judge of papers, who adds and compares, but searches nothing."""

from whensure.choices.choice_tables import frame_choices
from whensure.choices.stretches import join_stretches
from whensure.choices.told import check_in_view
from whensure.errors import InvalidText
from whensure.papers.numbering import Question
from whensure.papers.texts import read_paper


class Judge:
    """What papers about two events of a view are judged by: bounds between numbers of points, and the choices."""

    def __init__(self, frame, question):
        numbers = question.numbers
        self.bounds = [(numbers[start], numbers[end], amount, part) for start, end, amount, part in question.bounds]
        self.first = numbers[question.first]
        self.second = numbers[question.second]
        self.every_choice = frame_choices(frame)

    def is_chain(self, chain, choice, start, end):
        """Tell if a list of bounds' numbers is a chain from one point to another, given a choice."""
        at = start
        for number in chain:
            if number >= len(self.bounds):
                return False
            begin, finish, _, part = self.bounds[number]
            if part in choice or begin != at:
                return False
            at = finish
        return at == end

    def sum_of(self, chain):
        """Return the sum of a chain."""
        return sum([self.bounds[number][2] for number in chain])

    def is_ring(self, ring, choice):
        """Tell if a list of bounds' numbers shows that a choice is impossible."""
        if not ring or ring[0] >= len(self.bounds):
            return False
        start = self.bounds[ring[0]][0]
        return self.is_chain(ring, choice, start, start) and self.sum_of(ring) < 0

    def stretch_of_ends(self, entry):
        """Return the stretch of the ends of a choice."""
        _, there, back = entry
        return (None if back is None else -self.sum_of(back), None if there is None else self.sum_of(there))

    def has_chains(self, entry, choice):
        """Tell if the chains of the ends of a choice are as required, as far as they are given."""
        _, there, back = entry
        if there is not None and not self.is_chain(there, choice, self.first, self.second):
            return False
        return back is None or self.is_chain(back, choice, self.second, self.first)

    def entry_holds(self, entry, choice, joined):
        """Tell if the ring or the ends of a choice show that it adds nothing to the joined stretches."""
        if entry[0] == "ring":
            return self.is_ring(entry[1], choice)
        if not self.has_chains(entry, choice):
            return False
        ends = self.stretch_of_ends(entry)
        return any([lies_in(ends, stretch) for stretch in joined])

    def meet_all(self, instants, choice):
        """Tell if instants meet all bounds that a choice leaves."""
        for start, end, amount, part in self.bounds:
            if part not in choice and instant_at(instants, end) > instant_at(instants, start) + amount:
                return False
        return True

    def can_rise(self, points, choice):
        """Tell if some points can rise, given a choice."""
        risen = {number: True for number in points}
        for start, end, _, part in self.bounds:
            if part not in choice and end in risen and start not in risen:
                return False
        return True

    def is_open(self, points, choice, inside, outside):
        """Tell if some points can rise, have the one point among them and not the other; or there are none."""
        if points is None:
            return True
        return inside in points and outside not in points and self.can_rise(points, choice)

    def later_by(self, instants):
        """Return by how much the second event is later than the first one by these instants."""
        return instant_at(instants, self.second) - instant_at(instants, self.first)

    def piece_fits(self, piece):
        """Tell if a piece fits."""
        choice, low, high, below, above = piece
        if choice not in self.every_choice or self.later_by(low) > self.later_by(high):
            return False
        if not self.meet_all(low, choice) or not self.meet_all(high, choice):
            return False
        opens_below = self.is_open(below, choice, self.first, self.second)
        return opens_below and self.is_open(above, choice, self.second, self.first)

    def piece_stretch(self, piece):
        """Return the stretch of a piece."""
        _, low, high, below, above = piece
        least = self.later_by(low) if below is None else None
        return (least, self.later_by(high) if above is None else None)

    def verdict(self, paper):
        """Return the list of joined stretches that a paper shows, or None if it is not accepted."""
        entries, pieces = paper
        if len(entries) != len(self.every_choice) or not all([self.piece_fits(piece) for piece in pieces]):
            return None
        joined = join_stretches([self.piece_stretch(piece) for piece in pieces])
        for entry, choice in zip(entries, self.every_choice):
            if not self.entry_holds(entry, choice, joined):
                return None
        return joined


def instant_at(instants, number):
    """Return the instant of a point; it is 0 beyond the end of the list."""
    return instants[number] if number < len(instants) else 0


def lies_in(stretch, other):
    """Tell if each end that the other stretch has is one that this stretch has, too, and not beyond."""
    least, greatest = stretch
    bottom, top = other
    if bottom is not None and (least is None or least < bottom):
        return False
    return top is None or (greatest is not None and greatest <= top)


def judge_paper(frame, view, first, second, text):
    """Return the list of stretches that a paper shows; None if the text is no paper, or it is not accepted.

    Raise NotKept if an event is not in the view.
    """
    check_in_view(view, [first, second])
    try:
        paper = read_paper(text)
    except InvalidText:
        return None
    return Judge(frame, Question(frame, view, first, second)).verdict(paper)
