"""The first events of devices, and the view that has only these."""


def birth(frame):
    """Return the birth event, which is the same for all devices."""
    return (False, (), (), ("note",), tuple([1] * len(frame.devices)))


def first_view(frame):
    """Return the view that has only births."""
    return [[birth(frame)] for _ in frame.devices]
