"""All the ways in which a number can be shared out."""


def ways_to_share(count, rooms):
    """Give each way as a tuple: for each room a number not above it.

    They stand as a plan prefers them: of two ways the one that is greater where they first differ is ahead."""
    if len(rooms) == 1:
        return [(count,)] if count <= rooms[0] else []
    ways = []
    for first in range(min(count, rooms[0]), -1, -1):
        for rest in ways_to_share(count - first, rooms[1:]):
            ways.append((first,) + rest)
    return ways
