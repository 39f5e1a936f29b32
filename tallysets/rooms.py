"""Rooms with doors, their grammars and their walks."""

from tallysets.languages import tree_for

# The document names three rooms, but says, too, that nothing is refused for somewhat more.
ROOM_SIGNS = "ABCDEFGHIJKLMNOPQRSTUVWXYZ"


def door_rule(door):
    return (ROOM_SIGNS[door[0]], door[1] + ROOM_SIGNS[door[2]])


def grammar_of(rooms):
    doors = [door_rule(door) for door in rooms[1]]
    ends = [(ROOM_SIGNS[room], "") for room in rooms[2]]
    return (rooms[0], tuple(doors + ends))


def walk_for(rooms, one):
    tree = tree_for(grammar_of(rooms), one)
    if tree is None:
        return None
    walk = []
    # The rules of doors are numbered as the doors are; the innermost rule is that of an end.
    while len(tree[1]) > 0:
        walk.append(tree[0])
        tree = tree[1][0]
    return tuple(walk)
