"""The desk that answers calls on one board."""

from provinceboard.board import Board
from provinceboard.letters import counted, is_name, is_short, text_of
from provinceboard.printing import printed
from provinceboard.reading import put_text
from provinceboard.roads import FLEETS, distances, is_stand, least_of_parts, links_for, shortest_way
from provinceboard.symmetry import is_symmetry

OUT_OF_RANGE = -1
NO_NAME = -2
NO_PLACE = -3
TAKEN_NAME = -4
NO_WAY = -5

MOST_IN_LIST = 40

# For each call, from 0 on: how many numbers it has, and how many rows behind them.
FORMS = (
    (0, 1), (0, 0), (0, 1), (0, 1), (1, 0), (1, 0), (3, 0), (5, 0),
    (5, 0), (0, 1), (1, 2), (0, 0), (1, 0), (0, 0), (0, 0),
)


class Desk:
    def __init__(self):
        self.board = Board()


# Nothing parts the calls of a list: only a call's form tells where the next begins.
class Call:
    def __init__(self, calls, begin):
        form = FORMS[calls[begin]]
        self.number = calls[begin]
        self.end = begin + 1 + form[0]
        self.numbers = calls[begin + 1:self.end]
        self.rows = []
        for which in range(form[1]):
            size = calls[self.end]
            self.rows.append(calls[self.end + 1:self.end + 1 + size])
            self.end += 1 + size


def is_number_of(number, things):
    return 0 <= number < len(things)


def answer_read(desk, call):
    board = Board()
    wrong = put_text(board, text_of(call.rows[0]))
    if wrong is not None:
        return [1, wrong[0], wrong[1]]
    desk.board = board
    return [0, len(board.provinces)]


def answer_print(desk, call):
    return [0] + counted(printed(desk.board))


def answer_find(desk, call):
    word = text_of(call.rows[0])
    board = desk.board
    if word in board.by_word:
        return [0, 1, board.by_word[word]]
    if word == "":
        return [0, 0]
    found = [i for i, province in enumerate(board.provinces) if province.name.startswith(word)]
    return [0, len(found)] + found


def answer_place(desk, call):
    place = desk.board.fleet_place(text_of(call.rows[0]))
    if place is None:
        return [NO_PLACE]
    return [0, place[0], place[1]]


def answer_province(desk, call):
    number = call.numbers[0]
    if not is_number_of(number, desk.board.provinces):
        return [OUT_OF_RANGE]
    province = desk.board.provinces[number]
    answer = [0, province.kind, 1 if province.centre else 0, province.home, len(province.shores)]
    for word in [province.name, province.short] + province.shores:
        answer.extend(counted(word))
    return answer


def answer_power(desk, call):
    number = call.numbers[0]
    if not is_number_of(number, desk.board.powers):
        return [OUT_OF_RANGE]
    return [0] + counted(desk.board.powers[number])


def places_answer(how, places):
    answer = [0, len(places)]
    for place in places:
        answer.append(place[0])
        if how == FLEETS:
            answer.append(place[1])
    return answer


def answer_near(desk, call):
    how = call.numbers[0]
    place = (call.numbers[1], call.numbers[2])
    if not is_stand(desk.board, how, place[0], place[1]):
        return [OUT_OF_RANGE]
    return places_answer(how, links_for(desk.board, how).beside(place))


# far and way are handed the same numbers: the two places, or None if one is out of range.
def ends_of(desk, call):
    how = call.numbers[0]
    start = (call.numbers[1], call.numbers[2])
    goal = (call.numbers[3], call.numbers[4])
    for place in (start, goal):
        if not is_stand(desk.board, how, place[0], place[1]):
            return None
    return (start, goal)


def answer_far(desk, call):
    ends = ends_of(desk, call)
    if ends is None:
        return [OUT_OF_RANGE]
    far = distances(links_for(desk.board, call.numbers[0]), ends[0])
    return [0, far[ends[1]]] if ends[1] in far else [NO_WAY]


def answer_way(desk, call):
    ends = ends_of(desk, call)
    if ends is None:
        return [OUT_OF_RANGE]
    how = call.numbers[0]
    places = shortest_way(links_for(desk.board, how), ends[0], ends[1])
    return [NO_WAY] if places is None else places_answer(how, places)


def answer_symmetry(desk, call):
    numbers = call.rows[0]
    if len(numbers) > MOST_IN_LIST or not all([is_number_of(number, desk.board.provinces) for number in numbers]):
        return [OUT_OF_RANGE]
    return [0, 1 if is_symmetry(desk.board, numbers) else 0]


def answer_rename(desk, call):
    board = desk.board
    number = call.numbers[0]
    name = text_of(call.rows[0])
    short = text_of(call.rows[1])
    if not is_number_of(number, board.provinces):
        return [OUT_OF_RANGE]
    if not is_name(name) or not is_short(short):
        return [NO_NAME]
    if name == short or not board.is_free_for(number, name) or not board.is_free_for(number, short):
        return [TAKEN_NAME]
    board.rename(number, name, short)
    return [0]


def answer_starts(desk, call):
    answer = [0, len(desk.board.units)]
    for unit in desk.board.units:
        answer.extend([unit.power, 1 if unit.fleet else 0, unit.place[0], unit.place[1]])
    return answer


def answer_homes(desk, call):
    power = call.numbers[0]
    if not is_number_of(power, desk.board.powers):
        return [OUT_OF_RANGE]
    found = [i for i, province in enumerate(desk.board.provinces) if province.home == power]
    return [0, len(found)] + found


def answer_parts(desk, call):
    least = least_of_parts(desk.board)
    return [0, len(least)] + least


def answer_counts(desk, call):
    board = desk.board
    centres = [province for province in board.provinces if province.centre]
    links = [board.land.total, board.sea.total]
    return [0, len(board.powers), len(board.provinces)] + links + [len(centres), len(board.units)]


ANSWERS = {
    0: answer_read,
    1: answer_print,
    2: answer_find,
    3: answer_place,
    4: answer_province,
    5: answer_power,
    6: answer_near,
    7: answer_far,
    8: answer_way,
    9: answer_symmetry,
    10: answer_rename,
    11: answer_starts,
    12: answer_homes,
    13: answer_parts,
    14: answer_counts,
}


def answers(calls):
    desk = Desk()
    given = []
    at = 0
    while at < len(calls):
        call = Call(calls, at)
        answer_call = ANSWERS[call.number]
        answer = answer_call(desk, call)
        given.append(len(answer))
        given.extend(answer)
        at = call.end
    return given
