"""What holds on to what in a room whose build is right: clutches and groups."""

from brickrooms.catalogues import above, has_stud, has_tube


def clutches(room):
    """By (i, j): how many studs of line i have a cell of line j with a tube just above, if there is one."""
    counts = {}
    for place, sign in room.signs.items():
        over = above(place)
        if has_stud(sign) and over in room.signs and has_tube(room.signs[over]):
            pair = (room.owners[place], room.owners[over])
            counts[pair] = counts.get(pair, 0) + 1
    return counts


def least_of_groups(size, counts):
    """Of each of the lines the least line of its group; size: how many lines, counts: their clutches."""
    held = [[] for k in range(size)]
    for pair in counts:
        held[pair[0]].append(pair[1])
        held[pair[1]].append(pair[0])
    least = [size] * size
    for k in range(size):
        # Lesser lines have marked their groups before: the first line of a new one is its least.
        if least[k] == size:
            mark_group(k, held, least)
    return least


def mark_group(first, held, least):
    least[first] = first
    waiting = [first]
    while len(waiting) > 0:
        reached_last = waiting.pop()
        for k in held[reached_last]:
            if least[k] != first:
                least[k] = first
                waiting.append(k)
