"""What the tests share: calls and answers in short, and a second, slower way to the answers about a chain."""

import random
import unittest
from fractions import Fraction

from roundchains.desk import answers

PLAY = "chance Play a [1] -> b : 1, w : 1 ; b -> a : 2, l : 1 ; w ; l [-3] ; tell a"
ROUND = "chance Round x -> y : 1 ; y -> x : 1, y : 1 ; tell x"
MIXED = """
chance Mixed
start [1/2] -> left : 1/3, right : 2/3, gone : 0, start : 1 ;   # gone is not come to from here
left -> left : 1, turn : 3 ;
turn -> left : 5/7 ;
right -> done : 1/1000000000, start : 999999999, right : 0 ;
gone -> start : 1, done : 1 ;
done [-7/3] ;
alone -> alone : 9 ;
tell start
"""
ROUND_AND_OUT = """
chance Ring
a -> b : 1000000000/999999999, c : 1 ;
b -> c : 3, a : 1/7 ;
c -> a : 1, d : 1/1000000000 ;
d -> e : 1 ; e -> d : 1, e : 1/2 ; f ;
g -> f : 2, a : 3, g : 5, d : 0 ;
tell g
"""
CHAINS = (PLAY, ROUND, MIXED, ROUND_AND_OUT)


def load(text):
    data = list(text if isinstance(text, (bytes, list)) else text.encode())
    return [0, len(data)] + data


SHOWN = [1]
SIZES = [2]


def state(i):
    return [3, i]


def after(i, n):
    return [4, i, n]


def come(i, j):
    return [5, i, j]


def back(j):
    return [6, j]


def joined(*calls):
    return [number for call in calls for number in call]


def split(told):
    """The answers one by one."""
    apart = []
    at = 0
    while at < len(told):
        apart.append(told[at + 1:at + 1 + told[at]])
        assert len(apart[-1]) == told[at]
        at += 1 + told[at]
    return apart


def ask(*calls):
    return split(answers(joined(*calls)))


def ask_of(text, *calls):
    """The answers to calls on a text's chain, without that to load."""
    told = ask(load(text), *calls)
    assert told[0] == [1], told[0]
    return told[1:]


def told_bytes(answer):
    """The text in an answer that is a count and bytes."""
    assert answer[0] == len(answer) - 1
    return bytes(answer[1:]).decode()


def shares(answer):
    """The fractions of an answer that is shares."""
    assert len(answer) == 1 + 2 * answer[0]
    return [lowest_fraction(answer[at], answer[at + 1]) for at in range(1, len(answer), 2)]


def chance(answer):
    """The fraction of an answer that is 1 and a fraction."""
    assert len(answer) == 3 and answer[0] == 1, answer
    return lowest_fraction(answer[1], answer[2])


def lowest_fraction(top, bottom):
    made = Fraction(top, bottom)
    assert (made.numerator, made.denominator) == (top, bottom), "not in lowest terms"
    return made


class Faulty(unittest.TestCase):
    def check_fault(self, marked, code):
        """The sign @, which is taken out, marks the fault's place."""
        place = marked.index("@")
        text = marked.replace("@", "", 1)
        with self.subTest(text=marked):
            self.assertEqual(ask(load(text)), [[0, code, place]])

    def check_chain(self, text):
        with self.subTest(text=text):
            self.assertEqual(ask(load(text)), [[1]])


class Model:
    """A chain told by names: states are (name, worth, [(name, weight), ..])."""

    def __init__(self, title, states, start):
        self.title = title
        self.states = states
        self.start = start
        names = [name for name, _, _ in states]
        self.steps = [[(names.index(goal), Fraction(weight)) for goal, weight in steps] for _, _, steps in states]
        self.chances = []
        for number, steps in enumerate(self.steps):
            row = [Fraction(0)] * len(states)
            total = sum(weight for _, weight in steps)
            for goal, weight in steps:
                row[goal] = weight / total
            if not steps:
                row[number] = Fraction(1)
            self.chances.append(row)

    def form(self):
        lines = [f"chance {self.title}\n"]
        for name, worth, steps in self.states:
            line = name
            if worth:
                line += f" [{Fraction(worth)}]"
            if steps:
                line += " -> " + ", ".join(f"{goal} : {Fraction(weight)}" for goal, weight in steps)
            lines.append(line + " ;\n")
        lines.append(f"tell {self.start}\n")
        return "".join(lines)

    def after(self, i, n):
        now = [Fraction(int(k == i)) for k in range(len(self.states))]
        for _ in range(n):
            now = [sum(now[k] * self.chances[k][j] for k in range(len(now))) for j in range(len(now))]
        return now

    def reaches(self, j):
        """All states from which j can be come to, found by going over all chances until nothing is new."""
        found = {j}
        while True:
            more = {i for i, row in enumerate(self.chances) if any(row[k] for k in found)} | found
            if more == found:
                return found
            found = more

    def come(self, j):
        """The chances to come to j from each state, by elimination over fractions."""
        unknowns = sorted(self.reaches(j) - {j})
        table = []
        for i in unknowns:
            table.append([int(i == k) - self.chances[i][k] for k in unknowns] + [self.chances[i][j]])
        for column in range(len(unknowns)):
            pivot = next(at for at in range(column, len(unknowns)) if table[at][column])
            table[column], table[pivot] = table[pivot], table[column]
            table[column] = [value / table[column][column] for value in table[column]]
            for at in range(len(unknowns)):
                if at != column and table[at][column]:
                    factor = table[at][column]
                    table[at] = [one - factor * two for one, two in zip(table[at], table[column])]
        told = [Fraction(0)] * len(self.states)
        told[j] = Fraction(1)
        for at, i in enumerate(unknowns):
            told[i] = table[at][-1]
        return told

    def back(self, j):
        if not self.steps[j]:
            return Fraction(0)
        column = self.come(j)
        return sum(share * column[k] for k, share in enumerate(self.chances[j]))

    def closed(self, j):
        """Whether j can be come to from every state that can be come to from j."""
        home = self.reaches(j)
        return all(k in home for k in range(len(self.states)) if j in self.reaches(k))


def random_weight(source, most):
    if source.random() < 0.2:
        return Fraction(0)
    return Fraction(source.randint(0, most), source.randint(1, most))


def random_model(seed, most_states=6, most_steps=4, most=9):
    """A chain with ends, steps of weight 0 and worths, the same for the same seed."""
    source = random.Random(seed)
    names = [f"s{number}" for number in range(source.randint(1, most_states))]
    states = []
    for name in names:
        goals = source.sample(names, min(source.randint(0, most_steps), len(names)))
        steps = [(goal, random_weight(source, most)) for goal in goals]
        if steps and not any(weight for _, weight in steps):
            steps[0] = (steps[0][0], Fraction(1, most))
        worth = Fraction(source.randint(-most, most), source.randint(1, most))
        states.append((name, worth, steps))
    return Model("Any", states, source.choice(names))
