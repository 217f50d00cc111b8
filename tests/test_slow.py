"""Generated boards, asked of the program and of slow ways to the same answers that share nothing with it."""

import itertools
import random
import unittest

from tests.helper import counts, far, homes, lines, near, on, parts, starts, symmetry, way

WORDS = [a + b for a in "ab" for b in "cdefg"]


class Slow:
    """A board kept as pairs of places alone."""

    def __init__(self, seed, size, links):
        self.dice = random.Random(seed)
        self.size = size
        self.kinds = [self.dice.choice(("land", "sea", "coast", "coast", "coast")) for _ in range(size)]
        self.shores = [self.dice.choice((0, 0, 2, 3)) if kind == "coast" else 0 for kind in self.kinds]
        self.centre = {n: self.dice.randrange(-1, 2) for n in range(size) if self.kinds[n] != "sea" and self.dice.random() < 0.5}
        self.land = self.drawn(links, "sea", False)
        self.sea = self.drawn(links, "land", True)
        self.units = self.drawn_units()

    def places(self, shores):
        return [(n, s) for n in range(self.size) for s in range(max(1, self.shores[n]) if shores else 1)]

    def drawn(self, links, barred, shores):
        places = [place for place in self.places(shores) if self.kinds[place[0]] != barred]
        pairs = [pair for pair in itertools.combinations(places, 2) if pair[0][0] != pair[1][0]]
        return self.dice.sample(pairs, min(links, len(pairs)))

    def drawn_units(self):
        units = []
        for n in self.dice.sample(range(self.size), self.size // 2):
            fleet = self.kinds[n] == "sea" or self.kinds[n] == "coast" and self.dice.random() < 0.5
            shore = self.dice.randrange(max(1, self.shores[n])) if fleet else 0
            units.append((self.dice.randrange(2), int(fleet), n, shore))
        return units

    def word(self, place, shores=True):
        return f"S{WORDS[place[0]]}" + ("/" + "xyz"[place[1]] if shores and self.shores[place[0]] else "")

    def text(self):
        told = ["power Reds", "power Blues"]
        for n in range(self.size):
            told.append(" ".join([self.kinds[n], f"N{WORDS[n]}n", f"S{WORDS[n]}", *"xyz"[:self.shores[n]]]))
        rest = [f"centre S{WORDS[n]} {['Reds', 'Blues', ''][home]}" for n, home in self.centre.items()]
        for shores, name, links in ((False, "join", self.land), (True, "sail", self.sea)):
            for pair in links:
                one, other = self.dice.sample(pair, 2)
                rest.append(f"{name} {self.word(one, shores)} {self.word(other, shores)}")
        self.dice.shuffle(rest)
        for power, fleet, n, shore in self.units:
            rest.append(f"start {['Reds', 'Blues'][power]} {['army', 'fleet'][fleet]} {self.word((n, shore), fleet)}")
        return lines(*told, *rest)

    def links(self, how):
        both = [self.land, self.sea, [tuple((n, 0) for n, _ in pair) for pair in self.land + self.sea]][how]
        return {pair for one, other in both for pair in ((one, other), (other, one))}

    def table(self, how):
        """The least number of links between any two places, by way of any third."""
        places = self.places(how == 1)
        links = self.links(how)
        far_of = {(a, b): 0 if a == b else 1 if (a, b) in links else 999 for a in places for b in places}
        for c in places:
            for a in places:
                for b in places:
                    far_of[a, b] = min(far_of[a, b], far_of[a, c] + far_of[c, b])
        return far_of

    def ways(self, links, far_of, start, goal):
        """All shortest ways, in whatever order."""
        if start == goal:
            return [[goal]]
        steps = [b for a, b in links if a == start and far_of[b, goal] == far_of[start, goal] - 1]
        return [[start] + behind for step in steps for behind in self.ways(links, far_of, step, goal)]

    def is_symmetry(self, to):
        def moved(links):
            return {frozenset((to[n], s) for n, s in pair) for pair in links}

        return (all(self.kinds[n] == self.kinds[to[n]] and self.shores[n] == self.shores[to[n]]
                    and (n in self.centre) == (to[n] in self.centre) for n in range(self.size))
                and moved(self.land) == {frozenset(pair) for pair in self.land}
                and moved(self.sea) == {frozenset(pair) for pair in self.sea})


def told(how, places):
    return [0, len(places)] + [number for place in places for number in (place if how == 1 else place[:1])]


def asked(text, calls):
    """All the calls' answers, asked in lists of no more calls than the interface allows."""
    return [answer for at in range(0, len(calls), 399) for answer in on(text, *calls[at:at + 399])]


class AgainstSlow(unittest.TestCase):
    def check_roads(self, slow, how):
        links, far_of = slow.links(how), slow.table(how)
        places = slow.places(how == 1)
        pairs = [(a, b) for a in places for b in places]
        taken = on(slow.text(), *[near(how, *place) for place in places])
        self.assertEqual(taken, [told(how, sorted(b for a, b in links if a == place)) for place in places])
        for one, answer in zip(pairs, asked(slow.text(), [far(how, *a, *b) for a, b in pairs])):
            self.assertEqual(answer, [0, far_of[one]] if far_of[one] < 999 else [-5])
        for one, answer in zip(pairs, asked(slow.text(), [way(how, *a, *b) for a, b in pairs])):
            least = min(slow.ways(links, far_of, *one)) if far_of[one] < 999 else None
            self.assertEqual(answer, [-5] if least is None else told(how, least))

    def test_roads(self):
        for seed in range(60):
            slow = Slow(seed, 3 + seed % 6, 2 + seed % 9)
            for how in range(3):
                with self.subTest(seed=seed, how=how):
                    self.check_roads(slow, how)

    def test_parts_and_what_is_told(self):
        for seed in range(200):
            slow = Slow(seed, 1 + seed % 10, seed % 7)
            far_of = slow.table(2)
            least = [min(m for m in range(slow.size) if far_of[(n, 0), (m, 0)] < 999) for n in range(slow.size)]
            of = [sorted(n for n, home in slow.centre.items() if home == k) for k in range(2)]
            taken = on(slow.text(), parts(), starts(), homes(0), homes(1), counts())
            self.assertEqual(taken, [
                [0, slow.size] + least, [0, len(slow.units)] + [number for unit in slow.units for number in unit],
                [0, len(of[0])] + of[0], [0, len(of[1])] + of[1],
                [0, 2, slow.size, len(slow.land), len(slow.sea), len(slow.centre), len(slow.units)]], seed)

    def test_symmetry(self):
        ones = 0
        for seed in range(150):
            slow = Slow(seed, 2 + seed % 4, seed % 5)
            lists = list(itertools.permutations(range(slow.size)))
            expected = [int(slow.is_symmetry(to)) for to in lists]
            self.assertEqual(on(slow.text(), *[symmetry(*to) for to in lists]), [[0, one] for one in expected], seed)
            ones += sum(expected[1:])
        self.assertGreater(ones, 20)


if __name__ == "__main__":
    unittest.main()
