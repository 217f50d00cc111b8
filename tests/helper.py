"""Calls written out as lists, and the answers to a list of them taken apart."""

from provinceboard.desk import answers

BIG = 10 ** 18


def row(text):
    """A text (or a list of bytes) with its length before it."""
    signs = list(text.encode("latin-1")) if isinstance(text, str) else list(text)
    return [len(signs)] + signs


def read(text):
    return [0] + row(text)


def show():
    return [1]


def find(word):
    return [2] + row(word)


def place(word):
    return [3] + row(word)


def province(i):
    return [4, i]


def power(k):
    return [5, k]


def near(how, i, s=0):
    return [6, how, i, s]


def far(how, i, s, j, u):
    return [7, how, i, s, j, u]


def way(how, i, s, j, u):
    return [8, how, i, s, j, u]


def symmetry(*provinces):
    return [9, len(provinces)] + list(provinces)


def rename(i, name, short):
    return [10, i] + row(name) + row(short)


def starts():
    return [11]


def homes(k):
    return [12, k]


def parts():
    return [13]


def counts():
    return [14]


def run(*calls):
    """Each call's answer, as a list; the counts before them must add up."""
    handed = [number for call in calls for number in call]
    assert 1 <= len(calls) <= 400 and len(handed) <= 17000, "a list that may not be handed in"
    assert sum(call[0] in (0, 1) for call in calls) <= 40, "a list that may not be handed in"
    given = answers(handed)
    assert isinstance(given, list)
    assert all(type(number) is int for number in given)
    taken = []
    at = 0
    while at < len(given):
        taken.append(given[at + 1:at + 1 + given[at]])
        at += 1 + given[at]
    assert at == len(given), "the last answer is cut off"
    assert len(taken) == len(calls), "not one answer for each call"
    return taken


def on(text, *calls):
    """The calls' answers on the board of a text that has no wrong line."""
    taken = run(read(text), *calls)
    assert taken[0][0] == 0, f"wrong text: {taken[0]}"
    return taken[1:]


def shown(text):
    """What is printed once the text is read."""
    answer = on(text, show())[0]
    assert answer[0] == 0
    assert answer[1] == len(answer) - 2
    return bytes(answer[2:]).decode("ascii")


def lines(*texts):
    return "\n".join(texts)


# Two powers; Albia 0 (land), Borea 1 (sea), Corda 2 (coast), Delos 3 (coast,
# two shores), Eboria 4 (land), Fennel 5 (sea), Gallia 6 (coast, four shores),
# Hesper 7 (land, nothing near).
BOARD = lines(
    "power Reds",
    "power Blues",
    "land Albia Alb",
    "sea Borea Bor",
    "coast Corda Cor",
    "coast Delos Del north south",
    "land Eboria Ebo",
    "sea Fennel Fen",
    "coast Gallia Gal a b c d",
    "land Hesper Hes",
    "join Alb Cor",
    "join Cor Del",
    "join Del Ebo",
    "sail Bor Cor",
    "sail Bor Del/north",
    "sail Fen Del/south",
    "sail Fen Gal/c",
    "sail Gal/a Bor",
    "sail Bor Gal/d",
    "centre Alb Blues",
    "centre Cor",
    "start Reds army Del",
    "start Blues fleet Gal/d",
)
