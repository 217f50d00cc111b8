"""A board: its powers, provinces, links, centres and units at the start.

A place is a pair of a province's number and a shore's number. Armies know no
shores: their places all have the shore 0, so that both kinds of links are alike.
"""

from provinceboard.letters import STROKE

LAND = 0
SEA = 1
COAST = 2
KINDS = ("land", "sea", "coast")
NOBODY = -1


class Province:
    def __init__(self, kind, name, short, shores):
        self.kind = kind
        self.name = name
        self.short = short
        self.shores = shores
        self.centre = False
        self.home = NOBODY


class Unit:
    def __init__(self, power, fleet, place):
        self.power = power
        self.fleet = fleet
        self.place = place


# Each link is kept at both its ends, as it may be told and asked either way round.
class Links:
    def __init__(self):
        self.joined = {}
        self.total = 0

    def has(self, first, second):
        return second in self.joined.get(first, {})

    def put(self, first, second):
        if self.has(first, second):
            return
        self.put_end(first, second)
        self.put_end(second, first)
        self.total += 1

    def put_end(self, place, other):
        others = self.joined.setdefault(place, {})
        others[other] = True

    def beside(self, place):
        return sorted(self.joined.get(place, {}))

    def pairs(self):
        found = []
        for first in sorted(self.joined):
            for second in self.beside(first):
                if first < second:
                    found.append((first, second))
        return found


class Board:
    def __init__(self):
        self.powers = []
        self.provinces = []
        self.by_word = {}
        self.land = Links()
        self.sea = Links()
        self.either = Links()
        self.units = []

    def kind_at(self, place):
        return self.provinces[place[0]].kind

    def power_called(self, word):
        if word in self.powers:
            return self.powers.index(word)
        return None

    def army_place(self, word):
        if word in self.by_word:
            return (self.by_word[word], 0)
        return None

    def fleet_place(self, word):
        cut = word.partition(STROKE)
        if cut[0] not in self.by_word:
            return None
        number = self.by_word[cut[0]]
        shores = self.provinces[number].shores
        if len(shores) == 0:
            return (number, 0) if cut[1] == "" else None
        if cut[2] in shores:
            return (number, shores.index(cut[2]))
        return None

    def has_unit(self, number):
        return any([unit.place[0] == number for unit in self.units])

    def put_province(self, province):
        self.by_word[province.name] = len(self.provinces)
        self.by_word[province.short] = len(self.provinces)
        self.provinces.append(province)

    def is_free_for(self, number, word):
        return self.by_word.get(word, number) == number

    # Both old words go before a new one comes: the new name may be the old short name.
    def rename(self, number, name, short):
        province = self.provinces[number]
        self.by_word.pop(province.name)
        self.by_word.pop(province.short)
        province.name = name
        province.short = short
        self.by_word[name] = number
        self.by_word[short] = number

    def put_link(self, links, first, second):
        links.put(first, second)
        self.either.put((first[0], 0), (second[0], 0))
