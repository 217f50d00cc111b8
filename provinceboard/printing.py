"""A board printed in its one form."""

from provinceboard.board import KINDS, NOBODY
from provinceboard.letters import STROKE


def short_of(board, place):
    return board.provinces[place[0]].short


def place_word(board, place):
    province = board.provinces[place[0]]
    if len(province.shores) == 0:
        return province.short
    return province.short + STROKE + province.shores[place[1]]


def province_words(province):
    return [KINDS[province.kind], province.name, province.short] + province.shores


def centre_words(board, province):
    words = ["centre", province.short]
    if province.home != NOBODY:
        words.append(board.powers[province.home])
    return words


def unit_words(board, unit):
    power = board.powers[unit.power]
    if unit.fleet:
        return ["start", power, "fleet", place_word(board, unit.place)]
    return ["start", power, "army", short_of(board, unit.place)]


def board_lines(board):
    lines = [["power", name] for name in board.powers]
    lines.extend([province_words(province) for province in board.provinces])
    for first, second in board.land.pairs():
        lines.append(["join", short_of(board, first), short_of(board, second)])
    for first, second in board.sea.pairs():
        lines.append(["sail", place_word(board, first), place_word(board, second)])
    lines.extend([centre_words(board, province) for province in board.provinces if province.centre])
    lines.extend([unit_words(board, unit) for unit in board.units])
    return lines


def printed(board):
    return "".join([" ".join(words) + "\n" for words in board_lines(board)])
