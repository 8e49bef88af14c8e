"""What the tests of rooms share: how a room looks, and rooms to begin with."""

from logreplica.rooms import Room


def seen(room, count):
    """All that can be asked of a room: (term, row, leading, settled) of each keeper."""
    return [
        (room.term_of(k), room.row_of(k), room.leading(k), room.settled_of(k))
        for k in range(count)
    ]


def led(count, words=(), by=0):
    """A room in which one leads in term 1, all heard of it, and has written the words."""
    room = Room(count)
    if room.stand(by, list(range(count))) is not True:
        raise AssertionError("the keeper does not lead")
    for word in words:
        room.write(by, word)
    return room


def hand_all(room, k, others, many=10 ** 20):
    """Hand on to each of the others as often as it takes."""
    for other in others:
        while not room.hand(k, other, many):
            if not room.leading(k):
                raise AssertionError("the keeper does not lead any more")
