"""The checks of what watches are asked to do."""

from whensure.errors import InvalidShown, UnknownItem
from whensure.frame.items import is_clock_of, leads_from, leads_to


def check_shown(frame, device, shown):
    """Raise InvalidShown unless there are as many numbers as the device has clocks."""
    if len(shown) != len(frame.clocks_of(device)):
        raise InvalidShown()


def check_exists(exists):
    """Raise UnknownItem unless what an argument names exists."""
    if not exists:
        raise UnknownItem()


def check_clock(frame, device, clock):
    """Raise UnknownItem unless there is such a clock of the device."""
    check_exists(is_clock_of(frame, device, clock))


def check_link_from(frame, device, link):
    """Raise UnknownItem unless there is such a link from the device."""
    check_exists(leads_from(frame, device, link))


def check_link_to(frame, device, link):
    """Raise UnknownItem unless there is such a link to the device."""
    check_exists(leads_to(frame, device, link))
