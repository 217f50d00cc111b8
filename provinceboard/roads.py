"""Going along a board's links: who may go from where, and how far it is."""

ARMIES = 0
FLEETS = 1
ANY_LINK = 2


def links_for(board, how):
    if how == ARMIES:
        return board.land
    if how == FLEETS:
        return board.sea
    return board.either


# The range of a shore hangs on the others: only fleets tell shores apart.
def is_stand(board, how, number, shore):
    if how < ARMIES or how > ANY_LINK or number < 0 or number >= len(board.provinces):
        return False
    if how != FLEETS:
        return shore == 0
    return 0 <= shore < max(1, len(board.provinces[number].shores))


def distance(links, start, goal):
    far = {start: 0}
    reached = [start]
    at = 0
    while at < len(reached) and goal not in far:
        place = reached[at]
        for other in links.beside(place):
            if other not in far:
                far[other] = far[place] + 1
                reached.append(other)
        at += 1
    return far.get(goal)
