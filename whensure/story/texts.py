"""The texts of letters and views."""

from whensure.errors import InvalidText
from whensure.integers import Taker, put_sequence, read_integers, write_integers

LETTER_HEAD = "whensure letter"
VIEW_HEAD = "whensure view"
MOST_DIGITS = 18

# In the order of the table: a deed is written as its place here.
DEEDS = ("note", "kind", "mark", "send", "tell", "hear", "promise", "commit", "anew")


def put_deed(out, deed):
    """Append a deed to the integers of a thing."""
    out.append(DEEDS.index(deed[0]))
    if deed[0] == "anew":
        put_sequence(out, deed[1])
    else:
        out.extend(deed[1:])


def put_event(out, event):
    """Append an event to the integers of a thing."""
    asleep, shown, after, deed, knows = event
    out.append(1 if asleep else 0)
    put_sequence(out, shown)
    put_sequence(out, after)
    put_deed(out, deed)
    put_sequence(out, knows)


def take_deed(taker):
    """Return the deed that comes next."""
    place = taker.take_number()
    if place >= len(DEEDS):
        raise InvalidText()
    name = DEEDS[place]
    if name == "note":
        return (name,)
    if name == "tell":
        return (name, taker.take_number())
    if name == "commit":
        return (name, taker.take_any())
    if name == "mark":
        return (name, taker.take_number(), taker.take_number(), taker.take_any())
    if name == "anew":
        return (name, tuple(taker.take_numbers()))
    return (name, taker.take_number(), taker.take_number())


def take_event(taker):
    """Return the event that comes next."""
    asleep = taker.take_flag()
    shown = tuple(taker.take_anys())
    after = tuple(taker.take_anys())
    deed = take_deed(taker)
    return (asleep, shown, after, deed, tuple(taker.take_numbers()))


def take_record(taker):
    """Return the record that comes next."""
    return (taker.take_number(), taker.take_number(), take_event(taker))


def take_events(taker):
    """Return the list of a sequence of events."""
    return [take_event(taker) for _ in range(taker.take_length())]


def write_letter(letter):
    """Return the text of a letter."""
    sender, receiver, link, number, records = letter
    out = [sender, receiver, link, number, len(records)]
    for device, place, event in records:
        out.extend([device, place])
        put_event(out, event)
    return write_integers(LETTER_HEAD, out)


def read_letter(text):
    """Return the letter of a text. Raise InvalidText if the text is not that of a letter."""
    taker = Taker(read_integers(LETTER_HEAD, text, MOST_DIGITS))
    sender, receiver, link, number = [taker.take_number() for _ in range(4)]
    records = [take_record(taker) for _ in range(taker.take_length())]
    taker.take_end()
    return (sender, receiver, link, number, tuple(records))


def write_view(view):
    """Return the text of a view."""
    out = [len(view)]
    for events in view:
        out.append(len(events))
        for event in events:
            put_event(out, event)
    return write_integers(VIEW_HEAD, out)


def read_view(text):
    """Return the view of a text. Raise InvalidText if the text is not that of a view."""
    taker = Taker(read_integers(VIEW_HEAD, text, MOST_DIGITS))
    view = [take_events(taker) for _ in range(taker.take_length())]
    taker.take_end()
    return view
