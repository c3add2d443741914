"""Rooms filled by as few fillers as can be."""

from airtime.checking import check_fillers, check_room


def fewest_by_room(room, fillers):
    """Tell, for each room from 0 to this one, how many fillers fill it at the least."""
    fewest = [0]
    for part in range(1, room + 1):
        rests = [fewest[part - length] for length in fillers if length <= part]
        fewest.append(min(rests) + 1)
    return fewest


def filled(room, fillers):
    """Tell the fewest fillers that are the room together, the greatest first."""
    check_room(room)
    check_fillers(fillers)
    fewest = fewest_by_room(room, fillers)
    lengths = []
    rest = room
    while rest > 0:
        fitting = [length for length in fillers if length <= rest]
        # Of all lists of as few fillers, the greatest one begins with the greatest length.
        longest = max([length for length in fitting if fewest[rest - length] == fewest[rest] - 1])
        lengths.append(longest)
        rest -= longest
    return lengths
