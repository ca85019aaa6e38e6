"""Frames that several tests use."""

import random

from whensure.frame.frame import Frame
from whensure.story.events import first_view

WORDS_OF_THE_TABLE = [
    "device", "clock", "of", "goes", "on", "asleep", "link", "from", "to", "source", "at", "kind", "none", "faults",
]

FULL_TEXT = """\
device a
device b
clock c of a
kind k 9 11
kind slow 1 999999999999
clock d of b goes on asleep
kind k 10 10
link ab from a to b
kind fast 0 5
kind any 3 none
link ba from b to a
kind k 0 0
source s at b
kind good 2 0
faults 1
"""


def full_frame():
    """Return the frame of FULL_TEXT."""
    return Frame(
        ["a", "b"],
        [
            ("c", 0, False, (("k", 9, 11), ("slow", 1, 999999999999))),
            ("d", 1, True, (("k", 10, 10),)),
        ],
        [
            ("ab", 0, 1, (("fast", 0, 5), ("any", 3, None))),
            ("ba", 1, 0, (("k", 0, 0),)),
        ],
        [("s", 1, (("good", 2, 0),))],
        1,
    )


def mark_view(*values, faults=0, sources=1):
    """Return a frame with sources at one device that can be late by 2, and a view in which they say these values."""
    frame = Frame(["a"], [], [], [(f"s{at}", 0, (("k", 0, 2),)) for at in range(sources)], faults)
    view = first_view(frame)
    for number, (source, value) in enumerate(values, start=2):
        view[0].append((False, (), (), ("mark", source, 0, value), (number,)))
    return frame, view


def fields_of(frame):
    """Return all fields of a frame, to be compared."""
    return (frame.devices, frame.clocks, frame.links, frame.sources, frame.faults)


def random_name(chance, taken):
    """Return a name that is not among those taken, and add it to them."""
    while True:
        if chance.random() < 0.5:
            name = chance.choice(WORDS_OF_THE_TABLE)
        else:
            length = chance.choice([1, 2, 12])
            first = chance.choice("abcdefghijklmnopqrstuvwxyz")
            name = first + "".join(chance.choices("abcdefghijklmnopqrstuvwxyz0123456789", k=length - 1))
        if name not in taken:
            taken.append(name)
            return name


def random_amount(chance, least):
    """Return an amount from least to the greatest number that a text can have."""
    return chance.choice([least, least + 1, least + chance.randrange(10**6), 10**12 - 1])


def random_kinds(chance, role):
    """Return one to four kinds of a part."""
    taken = []
    kinds = []
    for _ in range(chance.randint(1, 4)):
        first = random_amount(chance, 1 if role == "clock" else 0)
        second = random_amount(chance, 0 if role == "source" else first)
        second = min(second, 10**12 - 1)
        if role == "link" and chance.random() < 0.3:
            second = None
        kinds.append((random_name(chance, taken), first, second))
    return tuple(kinds)


def random_frame(seed):
    """Return a frame that a text can have."""
    chance = random.Random(seed)
    count = chance.randint(1, 6)
    devices = []
    for _ in range(count):
        random_name(chance, devices)
    names = {"clock": [], "link": [], "source": []}
    clocks, links, sources = [], [], []
    parts = chance.randint(1, 9)
    while len(clocks) + len(links) + len(sources) < parts:
        role = chance.choice(["clock", "link", "source"])
        at = chance.randrange(count)
        if role == "clock":
            kinds = random_kinds(chance, role)
            clocks.append((random_name(chance, names[role]), at, chance.random() < 0.5, kinds))
        elif role == "source":
            sources.append((random_name(chance, names[role]), at, random_kinds(chance, role)))
        elif count > 1 and len(clocks) + len(links) + len(sources) + 2 <= parts:
            to = chance.choice([device for device in range(count) if device != at])
            for ends in [(at, to), (to, at)]:
                links.append((random_name(chance, names[role]), *ends, random_kinds(chance, role)))
    chance.shuffle(links)
    faults = chance.randint(0, min(2, parts - 1))
    return Frame(devices, clocks, links, sources, faults)
