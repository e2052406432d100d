"""The program beside a second reading of the document, written apart from it, over long plays."""

import random
import unittest
from collections import deque
from fractions import Fraction
from math import floor

from cavekeys.desk import answers

KEYS = "hjklyubn"
MOVES = [(-1, 0), (0, 1), (0, -1), (1, 0), (-1, -1), (1, -1), (-1, 1), (1, 1)]
WIDE, HIGH = 39, 20


def nearest(fraction):
    if fraction < 0:
        return -nearest(-fraction)
    return floor(fraction + Fraction(1, 2))


# Each line of sight from (0, 0), as the places between.
LINES = {}
for dx in range(-8, 9):
    for dy in range(-8, 9):
        n = max(abs(dx), abs(dy))
        LINES[dx, dy] = [(nearest(Fraction(i * dx, n)), nearest(Fraction(i * dy, n))) for i in range(1, n)]


class Model:
    def __init__(self):
        self.live = False

    def draw(self, n):
        s = self.s
        s ^= s // 2 ** 12
        s ^= s * 2 ** 25 % 2 ** 64
        s ^= s // 2 ** 27
        self.s = s
        return s * 2685821657736338717 % 2 ** 64 // 2 ** 32 % n

    def begin(self, seed):
        if seed == 0:
            return -3
        self.s = seed
        self.have = dict(level=0, life=20, blades=0, gold=0, drinks=0, leaves=0, turns=0)
        self.over = None
        self.word = ""
        self.next_level()
        self.remember()
        return 0

    def next_level(self):
        self.have["level"] += 1
        n = self.have["level"]
        self.grid = [[False] * WIDE for row in range(HIGH)]
        self.known = set()
        self.rooms = []
        for part in range(6):
            w = self.draw(7) + 4
            h = self.draw(5) + 3
            x = self.draw(12 - w) + 1 + [0, 13, 26][part % 3]
            y = self.draw(9 - h) + 1 + (10 if part > 2 else 0)
            self.rooms.append((x, y, w, h))
            for row in range(y, y + h):
                self.grid[row][x:x + w] = [True] * w
        mid = [(x + w // 2, y + h // 2) for x, y, w, h in self.rooms]
        self.mid = mid
        for p, q in [(0, 1), (1, 2), (3, 4), (4, 5), (0, 3), (1, 4), (2, 5)]:
            self.way(mid[p], mid[q], self.draw(2))
        a = self.draw(6)
        b = self.draw(5)
        self.things = {}
        self.stairs = None
        if n == 5:
            self.things[mid[a]] = 4
        else:
            self.stairs = mid[a]
        self.at = mid[(a + 1 + b) % 6]
        self.beasts = []
        for i in range(n + 2):
            spot = self.spot()
            kind = self.draw(n + 1 if n + 1 < 4 else 4)
            if spot != self.at and spot not in [beast["at"] for beast in self.beasts]:
                self.beasts.append(dict(at=spot, kind=kind, life=[3, 6, 10, 16][kind]))
        for i in range(4):
            spot = self.spot()
            self.things.setdefault(spot, self.draw(4))

    def way(self, start, end, bend):
        x, y = start
        order = "xy" if bend == 0 else "yx"
        for axis in order:
            while (x if axis == "x" else y) != end["xy".index(axis)]:
                self.grid[y][x] = True
                if axis == "x":
                    x += 1 if end[0] > x else -1
                else:
                    y += 1 if end[1] > y else -1
        self.grid[y][x] = True

    def spot(self):
        x, y, w, h = self.rooms[self.draw(6)]
        x += self.draw(w)
        y += self.draw(h)
        return x, y

    def clear(self, place):
        x, y = place
        return 0 <= x < WIDE and 0 <= y < HIGH and self.grid[y][x]

    def sees(self, place):
        x, y = self.at
        line = LINES.get((place[0] - x, place[1] - y))
        return line is not None and all(self.clear((x + i, y + j)) for i, j in line)

    def remember(self):
        for dx, dy in LINES:
            place = (self.at[0] + dx, self.at[1] + dy)
            if 0 <= place[0] < WIDE and 0 <= place[1] < HIGH and self.sees(place):
                self.known.add(place)

    def distance(self, p):
        return max(abs(p[0] - self.at[0]), abs(p[1] - self.at[1]))

    def beast_on(self, place):
        for beast in self.beasts:
            if beast["at"] == place:
                return beast

    def key(self, c):
        if self.over:
            return -5
        key = chr(c) if 0 < c < 128 else "none"
        have = self.have
        if not self.done(key):
            self.word = "no"
            return 0
        have["turns"] = (have["turns"] + 1) % 2 ** 32
        if key != ">" and not self.over:
            for beast in self.beasts:
                self.beast_turn(beast)
                if self.over:
                    break
        if not self.over and have["turns"] % 10 == 0:
            have["life"] = min(20, have["life"] + 1)
        self.remember()
        return {None: 1, "won": 2, "dead": 3}[self.over]

    def done(self, key):
        have = self.have
        if key in KEYS:
            dx, dy = MOVES[KEYS.index(key)]
            to = (self.at[0] + dx, self.at[1] + dy)
            beast = self.beast_on(to)
            if beast:
                beast["life"] -= 1 + self.draw(4 + have["blades"])
                self.word = "hit"
                if beast["life"] <= 0:
                    self.beasts = [other for other in self.beasts if other is not beast]
                    self.word = "killed"
                return True
            if self.clear(to):
                self.at = to
                self.word = "something" if to in self.things else ""
                return True
        if key == ".":
            self.word = ""
            return True
        if key == "," and self.at in self.things:
            kind = self.things.pop(self.at)
            self.word = ["gold", "a drink", "a leaf", "a blade", "the crown"][kind]
            if kind == 0:
                have["gold"] += self.draw(20) + 10
            elif kind == 4:
                self.over = "won"
            else:
                have[["drinks", "leaves", "blades"][kind - 1]] += 1
            return True
        if key == "q" and have["drinks"]:
            have["drinks"] -= 1
            have["life"] = min(20, have["life"] + 8)
            self.word = "better"
            return True
        if key == "r" and have["leaves"]:
            have["leaves"] -= 1
            to = self.mid[self.draw(6)]
            self.word = "nothing"
            if not self.beast_on(to):
                self.at = to
                self.word = "away"
            return True
        if key == ">" and self.at == self.stairs:
            self.next_level()
            self.word = "deeper"
            return True
        return False

    def beast_turn(self, beast):
        away = self.distance(beast["at"])
        if away == 1:
            if self.draw(2) == 0:
                self.word = "missed"
                return
            self.have["life"] -= 1 + self.draw([2, 4, 6, 9][beast["kind"]])
            self.word = "bitten"
            if self.have["life"] <= 0:
                self.have["life"] = 0
                self.word = self.over = "dead"
        elif self.sees(beast["at"]):
            x, y = beast["at"]
            about = [(x + dx, y + dy) for dx, dy in MOVES]
            about = [p for p in about if self.clear(p) and not self.beast_on(p) and p != self.at]
            if about:
                best = sorted(about, key=self.distance)[0]
                if self.distance(best) < away:
                    beast["at"] = best

    def screen(self):
        signs = [["#" if (x, y) in self.known else " " for x in range(WIDE)] for y in range(HIGH)]
        for x, y in self.known:
            if self.clear((x, y)):
                signs[y][x] = ">" if (x, y) == self.stairs else "."
        for (x, y), kind in self.things.items():
            if self.sees((x, y)):
                signs[y][x] = "$!?/*"[kind]
        for beast in self.beasts:
            if self.sees(beast["at"]):
                signs[beast["at"][1]][beast["at"][0]] = "rwbd"[beast["kind"]]
        signs[self.at[1]][self.at[0]] = "@"
        text = "".join("".join(row) + "\n" for row in signs)
        text += " ".join(name + " " + str(number) for name, number in self.have.items()) + "\n" + self.word + "\n"
        return [len(text)] + list(text.encode("ascii"))


def toward(model, goals):
    """The first key of a shortest way to one of the goals, or None."""
    paths = {model.at: None}
    waiting = deque([model.at])
    while waiting:
        place = waiting.popleft()
        if place in goals and paths[place]:
            return paths[place]
        for key, (dx, dy) in zip(KEYS, MOVES):
            there = (place[0] + dx, place[1] + dy)
            if model.clear(there) and there not in paths:
                paths[there] = paths[place] or key
                waiting.append(there)
    return None


def good_key(model):
    if model.at in model.things:
        return ","
    for beast in model.beasts:
        if model.distance(beast["at"]) == 1:
            if model.have["life"] < 10 and model.have["drinks"]:
                return "q"
            return KEYS[MOVES.index((beast["at"][0] - model.at[0], beast["at"][1] - model.at[1]))]
    if model.have["life"] < 16 and not any(model.sees(beast["at"]) for beast in model.beasts):
        return "."
    if model.things:
        return toward(model, model.things)
    if model.at == model.stairs:
        return ">"
    return toward(model, [model.stairs]) or "."


def any_key(chance):
    if chance.random() < 0.1:
        return chance.choice([-2 ** 31, -1, 0, 10, 72, 127, 255, 256, 360, 2 ** 31 - 1])
    return ord(chance.choice("hjklyubn.,qr>"))


def compared_play(chance, wild, most):
    """Calls of a play, and what the model answers to them."""
    model = Model()
    calls = []
    expected = []
    ends = []
    begins = True
    while len(calls) < 1990 and len(ends) < most:
        draw = chance.random()
        if begins or draw < 0.002:
            seed = chance.choice([chance.randrange(2 ** 64), chance.randrange(1, 100), 0 if calls else 1])
            calls += [0, seed]
            answer = [model.begin(seed)]
            begins = False
        elif draw < 0.02:
            calls.append(2)
            answer = model.screen()
        else:
            key = any_key(chance) if chance.random() < wild or model.over else ord(good_key(model))
            calls += [1, key]
            answer = [model.key(key)]
            if answer[0] in (2, 3):
                ends.append(answer[0])
                calls.append(2)
                expected += [1] + answer
                answer = model.screen()
            begins = answer[0] == -5 and chance.random() < 0.5
        expected += [len(answer)] + answer
    return calls, expected, ends, model.have["level"]


class ModelTest(unittest.TestCase):
    def compare(self, name, wild, times):
        ends = []
        for time in range(times):
            with self.subTest(time=time):
                calls, expected, ended, level = compared_play(random.Random(f"{name} {time}"), wild, 6)
                self.assertEqual(answers(calls), expected)
                ends += ended
        return ends

    def test_good_plays(self):
        ends = self.compare("good", 0.03, 24)
        # The plays are worth comparing only if they come to both ends.
        self.assertIn(2, ends)
        self.assertIn(3, ends)

    def test_wild_plays(self):
        self.compare("wild", 0.5, 8)

    def test_wholly_wild_plays(self):
        self.compare("any", 1, 4)


if __name__ == "__main__":
    unittest.main()
