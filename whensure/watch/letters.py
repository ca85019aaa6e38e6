"""The letters of words, and what they tell whoever hears them."""

from whensure.errors import CannotBeHeard, InvalidRecord
from whensure.frame.items import is_device, leads_from, leads_to


def letter_of(known, link, number, knows):
    """Return the letter of the word of an event with this number and these knows."""
    _, sender, receiver, _ = known.frame.links[link]
    return (sender, receiver, link, number, tuple(known.records_for(receiver, knows)))


def is_known(known, record):
    """Tell if a record is one of an event that is known already, whatever it says of it."""
    return is_device(known.frame, record[0]) and record[1] < known.counts[record[0]]


def take_record(known, record):
    """Let what is known grow by a letter's record; return if it was new. Raise CannotBeHeard if it does not fit."""
    device, number, event = record
    if is_known(known, record):
        if known.kept_event(device, number) not in (None, event):
            raise CannotBeHeard()
        return False
    try:
        known.put_record(record)
    except InvalidRecord:
        raise CannotBeHeard() from None
    return True


def hearing_of(known, shown, letter):
    """Return the record of the owner's event that hears a letter, the records of which are known."""
    knows = list(known.counts)
    number = knows[known.owner]
    knows[known.owner] = number + 1
    return (known.owner, number, (False, shown, shown, ("hear", letter[2], letter[3]), tuple(knows)))


def records_heard(known, shown, letter):
    """Return the list of the new records by which a letter is heard, the owner's event last; known stays as it is.

    Raise CannotBeHeard if the letter, which is one to the owner, cannot be heard.
    """
    sender, receiver, link, _, records = letter
    if not leads_from(known.frame, sender, link) or not leads_to(known.frame, receiver, link):
        raise CannotBeHeard()
    grown = known.fork()
    new = []
    for record in records:
        if take_record(grown, record):
            new.append(record)
    hearing = hearing_of(grown, shown, letter)
    if not grown.can_put(hearing):
        raise CannotBeHeard()
    return [*new, hearing]
