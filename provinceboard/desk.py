"""The desk that answers calls on one board."""

from provinceboard.board import Board
from provinceboard.letters import counted, text_of
from provinceboard.printing import printed
from provinceboard.reading import put_text
from provinceboard.roads import FLEETS, distance, is_stand, links_for

OUT_OF_RANGE = -1
NO_PLACE = -3
NO_WAY = -5
NO_CALL = -8

# For each call, from 0 on: how many numbers it has, and how many rows behind them.
FORMS = (
    (0, 1), (0, 0), (0, 1), (0, 1), (1, 0), (1, 0), (3, 0), (5, 0),
    (5, 0), (0, 1), (1, 2), (0, 0), (1, 0), (0, 0), (0, 0),
)


class Desk:
    def __init__(self):
        self.board = Board()


# Nothing parts the calls of a list: only a call's form tells where the next begins.
class Call:
    def __init__(self, calls, begin):
        form = FORMS[calls[begin]]
        self.number = calls[begin]
        self.end = begin + 1 + form[0]
        self.numbers = calls[begin + 1:self.end]
        self.rows = []
        for which in range(form[1]):
            size = calls[self.end]
            self.rows.append(calls[self.end + 1:self.end + 1 + size])
            self.end += 1 + size


def answer_read(desk, call):
    board = Board()
    wrong = put_text(board, text_of(call.rows[0]))
    if wrong is not None:
        return [1, wrong[0], wrong[1]]
    desk.board = board
    return [0, len(board.provinces)]


def answer_print(desk, call):
    return [0] + counted(printed(desk.board))


def answer_find(desk, call):
    word = text_of(call.rows[0])
    board = desk.board
    if word in board.by_word:
        return [0, 1, board.by_word[word]]
    if word == "":
        return [0, 0]
    found = [i for i, province in enumerate(board.provinces) if province.name.startswith(word)]
    return [0, len(found)] + found


def answer_place(desk, call):
    place = desk.board.fleet_place(text_of(call.rows[0]))
    if place is None:
        return [NO_PLACE]
    return [0, place[0], place[1]]


def answer_province(desk, call):
    number = call.numbers[0]
    if number < 0 or number >= len(desk.board.provinces):
        return [OUT_OF_RANGE]
    province = desk.board.provinces[number]
    answer = [0, province.kind, 1 if province.centre else 0, province.home, len(province.shores)]
    for word in [province.name, province.short] + province.shores:
        answer.extend(counted(word))
    return answer


def answer_power(desk, call):
    number = call.numbers[0]
    if number < 0 or number >= len(desk.board.powers):
        return [OUT_OF_RANGE]
    return [0] + counted(desk.board.powers[number])


def places_answer(how, places):
    answer = [0, len(places)]
    for place in places:
        answer.append(place[0])
        if how == FLEETS:
            answer.append(place[1])
    return answer


def answer_near(desk, call):
    how = call.numbers[0]
    place = (call.numbers[1], call.numbers[2])
    if not is_stand(desk.board, how, place[0], place[1]):
        return [OUT_OF_RANGE]
    return places_answer(how, links_for(desk.board, how).beside(place))


def answer_far(desk, call):
    how = call.numbers[0]
    start = (call.numbers[1], call.numbers[2])
    goal = (call.numbers[3], call.numbers[4])
    for place in (start, goal):
        if not is_stand(desk.board, how, place[0], place[1]):
            return [OUT_OF_RANGE]
    links = distance(links_for(desk.board, how), start, goal)
    return [NO_WAY] if links is None else [0, links]


ANSWERS = {
    0: answer_read,
    1: answer_print,
    2: answer_find,
    3: answer_place,
    4: answer_province,
    5: answer_power,
    6: answer_near,
    7: answer_far,
}


def answer_call(desk, call):
    # The calls 8 to 14 have their forms, so that a list with them can be gone
    # through, but they are not written yet.
    if call.number not in ANSWERS:
        return [NO_CALL]
    answer = ANSWERS[call.number]
    return answer(desk, call)


def answers(calls):
    desk = Desk()
    given = []
    at = 0
    while at < len(calls):
        call = Call(calls, at)
        answer = answer_call(desk, call)
        given.append(len(answer))
        given.extend(answer)
        at = call.end
    return given
