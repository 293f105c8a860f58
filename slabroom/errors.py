"""The refusals: one class for each kind, all of them under RoomError."""


class RoomError(ValueError):
    """Any refusal."""


class BadPlan(RoomError):
    """A plan with pages, a length or sizes that no plan may have."""


class BadWish(RoomError):
    """A wish that is below 1 or no whole number."""


class TooLarge(RoomError):
    """A wish beyond the greatest size."""


class NoSize(RoomError):
    """A size that the plan does not have."""


class NoRoom(RoomError):
    """No slot is free, and no page can be had for one."""


class NotOut(RoomError):
    """No thing that is out is there."""


class OutOfThing(RoomError):
    """A step that leads out of the thing."""
