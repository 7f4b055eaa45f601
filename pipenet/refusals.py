"""The refusals of a net's calls, one error class each."""


class OutOfRange(Exception):
    """An argument is out of its range."""


class NetFull(Exception):
    """The net has as many pipes as it may have."""


class NoWallKnown(Exception):
    """No flow is kept, or the one that is kept brings its most."""
