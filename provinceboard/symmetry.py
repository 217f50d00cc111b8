"""Whether an exchange of provinces leaves a board as it is."""


def are_alike(province, other):
    if province.kind != other.kind or province.centre != other.centre:
        return False
    return len(province.shores) == len(other.shores)


# An exchange takes no two links to the same one, so it need not be looked at backwards, too.
def keeps_links(links, numbers):
    for first, second in links.pairs():
        if not links.has((numbers[first[0]], first[1]), (numbers[second[0]], second[1])):
            return False
    return True


def is_symmetry(board, numbers):
    if sorted(numbers) != list(range(len(board.provinces))):
        return False
    for province, number in zip(board.provinces, numbers):
        if not are_alike(province, board.provinces[number]):
            return False
    return keeps_links(board.land, numbers) and keeps_links(board.sea, numbers)
