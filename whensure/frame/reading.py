"""The reading of frames, and the reasons why a text is none."""

from whensure.errors import InvalidFrame
from whensure.frame.draft import Draft, devices_in, faults_of, frame_of, kind_in
from whensure.frame.words import KIND_SHAPES, SHAPES, number_of, words_fit, words_of

MOST_DEVICES = 6
MOST_PARTS = 9
MOST_KINDS = 4
MOST_FAULTS = 2


def unknown_line(draft, words):
    """Return the reason if no line of the table begins so, or none does here."""
    if words[0] == "kind":
        known = draft.last_part is not None
    else:
        known = words[0] in SHAPES
    return None if known else "unknown line"


def wrong_words(draft, words):
    """Return the reason if the line does not have the words of the table."""
    if words[0] == "kind":
        shapes = KIND_SHAPES[draft.last_part.role]
    else:
        shapes = SHAPES[words[0]]
    return None if any([words_fit(words, shape) for shape in shapes]) else "wrong words"


def given_twice(draft, words):
    """Return the reason if an earlier line gave what this one gives."""
    if words[0] == "faults":
        twice = draft.faults is not None
    else:
        twice = words[1] in draft.names_given(words[0])
    return "given twice" if twice else None


def no_such_device(draft, words):
    """Return the reason if the line says that a part is where no device is."""
    known = all([name in draft.devices for name in devices_in(words)])
    return None if known else "no such device"


def same_device(draft, words):
    """Return the reason if a link leads back to where it comes from."""
    return "same device" if words[0] == "link" and words[3] == words[5] else None


def amount_too_low(draft, words):
    """Return the reason if an amount of a kind is less than any can be."""
    if words[0] != "kind":
        return None
    _, first, second = kind_in(words)
    if draft.last_part.role == "clock":
        return "not above 0" if first < 1 else None
    if first < 0 or (draft.last_part.role == "source" and second < 0):
        return "below 0"
    return None


def upper_below_lower(draft, words):
    """Return the reason if the ends of an interval are in the wrong order; a source has none."""
    if words[0] != "kind" or draft.last_part.role == "source":
        return None
    _, lower, upper = kind_in(words)
    return "upper below lower" if upper is not None and upper < lower else None


def too_many(draft, words):
    """Return the reason if there is no room for what the line gives."""
    if words[0] == "device":
        full = len(draft.devices) == MOST_DEVICES
    elif words[0] == "kind":
        full = len(draft.last_part.kinds) == MOST_KINDS
    elif words[0] == "faults":
        full = number_of(words[1]) > MOST_FAULTS
    else:
        full = len(draft.parts) == MOST_PARTS
    return "too many" if full else None


# Each check relies on those before it: what they found right is not looked at again.
CHECKS = (
    unknown_line,
    wrong_words,
    given_twice,
    no_such_device,
    same_device,
    amount_too_low,
    upper_below_lower,
    too_many,
)


def line_fault(draft, words):
    """Return the first reason why a line is wrong behind the lines before it, or None."""
    for check in CHECKS:
        reason = check(draft, words)
        if reason is not None:
            return reason
    return None


def whole_fault(draft):
    """Return the first reason why right lines are no frame together, or None."""
    if not draft.devices:
        return "no device"
    if any([not part.kinds for part in draft.parts]):
        return "no kind"
    if len(draft.parts) <= faults_of(draft):
        return "too few parts"
    ways = [part.places for part in draft.parts_of("link")]
    if any([(receiver, sender) not in ways for sender, receiver in ways]):
        return "no link back"
    return None


def read_frame(text):
    """Return the frame of a text. Raise InvalidFrame if the text is not that of a frame."""
    draft = Draft()
    lines = text.split("\n")
    for at, line in enumerate(lines):
        words = words_of(line)
        if words:
            reason = line_fault(draft, words)
            if reason is not None:
                raise InvalidFrame(at + 1, reason)
            draft.take(words)
    reason = whole_fault(draft)
    if reason is not None:
        raise InvalidFrame(len(lines) + 1, reason)
    return frame_of(draft)
