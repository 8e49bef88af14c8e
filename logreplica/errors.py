"""The refusals. Each one is a RoomError, and none of them is another one."""


class RoomError(ValueError):
    """Any refusal."""


class NoRoom(RoomError):
    """The count is none that a room can have."""


class NoKeeper(RoomError):
    """The number is that of no keeper that could be meant."""


class NotLeading(RoomError):
    """The keeper does not lead."""


class OutOfPlace(RoomError):
    """The place is below 0 or above the length of the row."""
