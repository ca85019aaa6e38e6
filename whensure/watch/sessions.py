"""Sessions: watches as texts, and the loading of them after a crash."""

from whensure.choices.choice_tables import ChoiceTables
from whensure.errors import InvalidFrame, InvalidText
from whensure.frame.items import is_device
from whensure.frame.reading import read_frame
from whensure.frame.writing import write_frame
from whensure.integers import Taker, put_sequence, read_integers, write_integers
from whensure.knowing.known import Known
from whensure.story.texts import put_event, take_events
from whensure.tables.table import table_with
from whensure.watch.watch import Watch

SESSION_HEAD = "whensure watch"
MOST_DIGITS = 40

# All characters that the written form of a frame can have.
FRAME_SIGNS = "abcdefghijklmnopqrstuvwxyz0123456789- \n"


def put_hand(out, hand):
    """Append a clock's hand to the integers of a session."""
    point, shown, kind = hand
    if point is None:
        out.append(0)
    else:
        out.extend([1, *point])
    out.extend([shown, kind])


def put_way(out, way):
    """Append what is known of the words of a link to the integers of a session."""
    out.extend([way.floor_of_sent, way.floor_of_told, way.told_heard, way.needs, len(way.under_way)])
    for number, kind, knows in way.under_way:
        out.extend([number, 0 if kind is None else kind + 1])
        put_sequence(out, knows)


def put_known(out, known):
    """Append what a device knows to the integers of a session, from the counts on."""
    put_sequence(out, known.counts)
    for device, knows in enumerate(known.last_knows):
        put_sequence(out, knows)
        for hand in known.hands[device]:
            put_hand(out, hand)
    for way in known.ways:
        put_way(out, way)
    for device, events in enumerate(known.kept):
        out.extend([known.first_kept(device), len(events)])
        for event in events:
            put_event(out, event)
    put_rows(out, known.commits)


def put_rows(out, rows):
    """Append a sequence of tuples of integers to the integers of a session."""
    out.append(len(rows))
    for row in rows:
        out.extend(row)


def put_table(out, choice, table):
    """Append the choice and the distances of a table to the integers of a session."""
    put_sequence(out, choice)
    points = table.points
    for first in points:
        for second in points:
            distance = table.distance(first, second)
            if distance is None:
                out.append(0)
            else:
                out.extend([1, distance])


def save_watch(watch):
    """Return the text of the session of a watch."""
    out = []
    put_sequence(out, [ord(sign) for sign in write_frame(watch.frame)])
    out.append(watch.device)
    put_known(out, watch.known)
    out.append(1 if watch.owes else 0)
    put_rows(out, watch.pinned)
    put_rows(out, watch.tables.points_kept())
    out.append(len(watch.tables.pairs))
    for choice, table in watch.tables.pairs:
        put_table(out, choice, table)
    return write_integers(SESSION_HEAD, out)


def take_frame(taker):
    """Return the frame that comes next."""
    signs = {ord(sign): sign for sign in FRAME_SIGNS}
    codes = taker.take_numbers()
    if not all([code in signs for code in codes]):
        raise InvalidText()
    text = "".join([signs[code] for code in codes])
    try:
        frame = read_frame(text)
    except InvalidFrame:
        raise InvalidText() from None
    if write_frame(frame) != text:
        raise InvalidText()
    return frame


def take_for_devices(taker, frame):
    """Return the list of a sequence that must have a number for each device."""
    numbers = taker.take_numbers()
    if len(numbers) != len(frame.devices):
        raise InvalidText()
    return numbers


def take_row(taker, length):
    """Return the tuple of so many integers that come next."""
    return tuple([taker.take_any() for _ in range(length)])


def take_rows(taker, length):
    """Return the list of a sequence of tuples of so many integers."""
    return [take_row(taker, length) for _ in range(taker.take_length())]


def take_hand(taker):
    """Return the hand of a clock that comes next."""
    point = take_row(taker, 3) if taker.take_flag() else None
    return (point, taker.take_any(), taker.take_number())


def take_word(taker, frame):
    """Return the word under way that comes next."""
    number = taker.take_number()
    kind = taker.take_number()
    return (number, None if kind == 0 else kind - 1, tuple(take_for_devices(taker, frame)))


def take_way(taker, frame, way):
    """Set what is known of the words of a link to what comes next."""
    way.floor_of_sent = taker.take_number()
    way.floor_of_told = taker.take_number()
    way.told_heard = taker.take_number()
    way.needs = taker.take_number()
    way.under_way = [take_word(taker, frame) for _ in range(taker.take_length())]


def take_known(taker, frame, device):
    """Return what the device knows, which comes next, from the counts on."""
    known = Known(frame, device)
    known.counts = take_for_devices(taker, frame)
    for place in range(len(frame.devices)):
        known.last_knows[place] = tuple(take_for_devices(taker, frame))
        known.hands[place] = [take_hand(taker) for _ in frame.clocks_of(place)]
    for way in known.ways:
        take_way(taker, frame, way)
    for place in range(len(frame.devices)):
        first = taker.take_number()
        known.kept[place] = take_events(taker)
        if known.first_kept(place) != first:
            raise InvalidText()
    known.commits = take_rows(taker, 3)
    return known


def take_distance(taker):
    """Return the distance that comes next, or None."""
    return taker.take_any() if taker.take_flag() else None


def take_table(taker, points):
    """Return the pair of a choice and its table that comes next."""
    choice = tuple(taker.take_numbers())
    return choice, table_with(points, [[take_distance(taker) for _ in points] for _ in points])


def load_watch(text, sure):
    """Return the watch of a session; it owes a beginning unless sure is True and the saved one owed none.

    Raise InvalidText if the text is not that of a session.
    """
    taker = Taker(read_integers(SESSION_HEAD, text, MOST_DIGITS))
    frame = take_frame(taker)
    device = taker.take_number()
    if not is_device(frame, device):
        raise InvalidText()
    watch = Watch(frame, device)
    watch.known = take_known(taker, frame, device)
    watch.owes = taker.take_flag() or not sure
    watch.pinned = take_rows(taker, 2)
    points = take_rows(taker, 3)
    watch.tables = ChoiceTables([take_table(taker, points) for _ in range(taker.take_length())])
    taker.take_end()
    return watch
