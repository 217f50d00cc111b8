"""Going along a board's links: who may go from where, how far it is, and by which way."""

ARMIES = 0
FLEETS = 1
ANY_LINK = 2


def links_for(board, how):
    if how == ARMIES:
        return board.land
    if how == FLEETS:
        return board.sea
    return board.either


# The range of a shore hangs on the others: only fleets tell shores apart.
def is_stand(board, how, number, shore):
    if how < ARMIES or how > ANY_LINK or number < 0 or number >= len(board.provinces):
        return False
    if how != FLEETS:
        return shore == 0
    return 0 <= shore < max(1, len(board.provinces[number].shores))


def distances(links, start):
    far = {start: 0}
    reached = [start]
    at = 0
    while at < len(reached):
        place = reached[at]
        for other in links.beside(place):
            if other not in far:
                far[other] = far[place] + 1
                reached.append(other)
        at += 1
    return far


# Distances are taken from the goal, so that each step can be chosen from the start on.
def shortest_way(links, start, goal):
    far = distances(links, goal)
    if start not in far:
        return None
    place = start
    way = [start]
    while place != goal:
        left = far[place] - 1
        place = min([other for other in links.beside(place) if far[other] == left])
        way.append(place)
    return way


# Provinces are gone through rising, so the first to reach a part is the least in it.
def least_of_parts(board):
    least = {}
    for number in range(len(board.provinces)):
        if number not in least:
            for place in distances(board.either, (number, 0)):
                least[place[0]] = number
    return [least[number] for number in range(len(board.provinces))]
