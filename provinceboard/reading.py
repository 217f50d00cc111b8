"""A board's text read line by line, and why a line is wrong."""

from provinceboard.board import COAST, KINDS, LAND, NOBODY, SEA, Province, Unit
from provinceboard.letters import REMARK, WRONG, is_name, is_power, is_shore, is_short, words_of

RIGHT = 0
NO_FORM = 1
TAKEN = 2
UNKNOWN = 3
UNFIT = 4
TWICE = 5
FULL = 6

MOST_POWERS = 7
MOST_PROVINCES = 40
MOST_LINKS = 300
MOST_UNITS = 24


# A coast with one shore alone is no form: it would tell nothing apart.
def are_shores(words):
    if len(words) == 1 or len(words) > 4:
        return False
    return all([is_shore(word) for word in words]) and len(set(words)) == len(words)


def is_province_line(words):
    if len(words) < 3 or not is_name(words[1]) or not is_short(words[2]):
        return False
    return are_shores(words[3:]) if words[0] == KINDS[COAST] else len(words) == 3


def has_form(words):
    first = words[0]
    if first == "power":
        return len(words) == 2 and is_power(words[1])
    if first in KINDS:
        return is_province_line(words)
    if first == "join" or first == "sail":
        return len(words) == 3
    if first == "centre":
        return len(words) == 2 or len(words) == 3
    if first == "start":
        return len(words) == 4 and words[2] in ("army", "fleet")
    return False


def put_power(board, name):
    if name in board.powers:
        return TAKEN
    if len(board.powers) == MOST_POWERS:
        return FULL
    board.powers.append(name)
    return RIGHT


def put_province(board, words):
    name = words[1]
    short = words[2]
    if name == short or name in board.by_word or short in board.by_word:
        return TAKEN
    if len(board.provinces) == MOST_PROVINCES:
        return FULL
    board.put_province(Province(KINDS.index(words[0]), name, short, words[3:]))
    return RIGHT


# Land and sea links are wrong for the same reasons, but for the kind that is barred.
def put_link(board, links, first, second, barred):
    if first is None or second is None:
        return UNKNOWN
    if first[0] == second[0] or board.kind_at(first) == barred or board.kind_at(second) == barred:
        return UNFIT
    if links.has(first, second):
        return TWICE
    if links.total == MOST_LINKS:
        return FULL
    board.put_link(links, first, second)
    return RIGHT


def put_join(board, words):
    return put_link(board, board.land, board.army_place(words[1]), board.army_place(words[2]), SEA)


def put_sail(board, words):
    return put_link(board, board.sea, board.fleet_place(words[1]), board.fleet_place(words[2]), LAND)


def put_centre(board, words):
    place = board.army_place(words[1])
    home = board.power_called(words[2]) if len(words) == 3 else NOBODY
    if place is None or home is None:
        return UNKNOWN
    province = board.provinces[place[0]]
    if province.kind == SEA:
        return UNFIT
    if province.centre:
        return TWICE
    province.centre = True
    province.home = home
    return RIGHT


def put_start(board, words):
    fleet = words[2] == "fleet"
    power = board.power_called(words[1])
    place = board.fleet_place(words[3]) if fleet else board.army_place(words[3])
    if power is None or place is None:
        return UNKNOWN
    if board.kind_at(place) == (LAND if fleet else SEA):
        return UNFIT
    if board.has_unit(place[0]):
        return TWICE
    if len(board.units) == MOST_UNITS:
        return FULL
    board.units.append(Unit(power, fleet, place))
    return RIGHT


def put_words(board, words):
    first = words[0]
    if first == "power":
        return put_power(board, words[1])
    if first in KINDS:
        return put_province(board, words)
    if first == "join":
        return put_join(board, words)
    if first == "sail":
        return put_sail(board, words)
    if first == "centre":
        return put_centre(board, words)
    return put_start(board, words)


def put_line(board, line):
    if WRONG in line:
        return NO_FORM
    words = words_of(line)
    if len(words) == 0 or words[0].startswith(REMARK):
        return RIGHT
    if not has_form(words):
        return NO_FORM
    return put_words(board, words)


# Gives back the first wrong line's number and why, or None: a wrong text's board
# is half filled, and it is for the caller to drop it.
def put_text(board, text):
    for number, line in enumerate(text.split("\n"), start=1):
        why = put_line(board, line)
        if why != RIGHT:
            return (number, why)
    return None
