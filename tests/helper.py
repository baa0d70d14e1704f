"""What the tests share: calls and answers in short, and a second, slower way to the answers about a chain."""

import math
import random
import unittest
from fractions import Fraction

from roundchains.desk import answers

PLAY = "chance Play a [1] -> b : 1, w : 1 ; b -> a : 2, l : 1 ; w ; l [-3] ; tell a"
ROUND = "chance Round x -> y : 1 ; y -> x : 1, y : 1 ; tell x"
MIXED = """
chance Mixed
start [1/2] -> left : 1/3, right : 2/3, gone : 0, start : 1 ;   # gone is not come to from here
left -> left : 1, turn : 3 ;
turn -> left : 5/7 ;
right -> done : 1/1000000000, start : 999999999, right : 0 ;
gone -> start : 1, done : 1 ;
done [-7/3] ;
alone -> alone : 9 ;
tell start
"""
ROUND_AND_OUT = """
chance Ring
a -> b : 1000000000/999999999, c : 1 ;
b -> c : 3, a : 1/7 ;
c -> a : 1, d : 1/1000000000 ;
d -> e : 1 ; e -> d : 1, e : 1/2 ; f ;
g -> f : 2, a : 3, g : 5, d : 0 ;
tell g
"""
CHAINS = (PLAY, ROUND, MIXED, ROUND_AND_OUT)


def largest(ends):
    """The text of a chain of 24 states, the last of them ends, with about as much in it as there is room for."""
    source = random.Random(24)
    names = [chr(97 + number) for number in range(24)]
    lines = []
    for number, name in enumerate(names):
        goals = [names[(number + 1) % 24]] + source.sample(names[:number] + names[number + 2:], 5)
        steps_of_one = [f"{goal} : {source.randint(1, 10 ** 9)}/{source.randint(1, 10 ** 9)}" for goal in goals]
        worth = f"{number - 9}/{number + 1}"
        way = " -> " + ", ".join(steps_of_one) if number < 24 - ends else ""
        lines.append(f"{name} [{worth}]{way} ;")
    return "chance Largest " + " ".join(lines) + " tell a"


def load(text):
    data = list(text if isinstance(text, (bytes, list)) else text.encode())
    return [0, len(data)] + data


SHOWN = [1]
SIZES = [2]


def state(i):
    return [3, i]


def after(i, n):
    return [4, i, n]


def come(i, j):
    return [5, i, j]


def back(j):
    return [6, j]


def visits(i, j):
    return [7, i, j]


def steps(i, some_states):
    return [8, i, len(some_states)] + list(some_states)


def gain(i):
    return [9, i]


CLASSES = [10]


def steady(k):
    return [11, k]


def long(i):
    return [12, i]


def period(k):
    return [13, k]


def joined(*calls):
    return [number for call in calls for number in call]


def split(told):
    """The answers one by one."""
    apart = []
    at = 0
    while at < len(told):
        apart.append(told[at + 1:at + 1 + told[at]])
        assert len(apart[-1]) == told[at]
        at += 1 + told[at]
    return apart


def ask(*calls):
    return split(answers(joined(*calls)))


def ask_of(text, *calls):
    """The answers to calls on a text's chain, without that to load."""
    told = ask(load(text), *calls)
    assert told[0] == [1], told[0]
    return told[1:]


def told_bytes(answer):
    """The text in an answer that is a count and bytes."""
    assert answer[0] == len(answer) - 1
    return bytes(answer[1:]).decode()


def shares(answer):
    """The fractions of an answer that is shares."""
    assert len(answer) == 1 + 2 * answer[0]
    return [lowest_fraction(answer[at], answer[at + 1]) for at in range(1, len(answer), 2)]


def chance(answer):
    """The fraction of an answer that is 1 and a fraction."""
    assert len(answer) == 3 and answer[0] == 1, answer
    return lowest_fraction(answer[1], answer[2])


def average(answer):
    """The same, or None where it is refused as without end."""
    return None if answer == [-6] else chance(answer)


def told_classes(answer):
    """The classes of an answer: pairs of closed or not, and the states."""
    told = []
    at = 1
    while at < len(answer):
        told.append((answer[at], answer[at + 2:at + 2 + answer[at + 1]]))
        assert len(told[-1][1]) == answer[at + 1]
        at += 2 + answer[at + 1]
    assert len(told) == answer[0]
    return told


def count_of(text):
    """How many states a text's chain has."""
    return ask_of(text, SIZES)[0][0]


def all_steps(text):
    """For each state its steps as the program tells them: pairs of a number and a chance."""
    told = []
    for answer in ask_of(text, *[state(i) for i in range(count_of(text))]):
        rest = answer[2 + answer[1] + 3:]
        told.append([(rest[at], Fraction(rest[at + 1], rest[at + 2])) for at in range(0, len(rest), 3)])
    return told


def lowest_fraction(top, bottom):
    made = Fraction(top, bottom)
    assert (made.numerator, made.denominator) == (top, bottom), "not in lowest terms"
    return made


class Faulty(unittest.TestCase):
    def check_fault(self, marked, code):
        """The sign @, which is taken out, marks the fault's place."""
        place = marked.index("@")
        text = marked.replace("@", "", 1)
        with self.subTest(text=marked):
            self.assertEqual(ask(load(text)), [[0, code, place]])

    def check_chain(self, text):
        with self.subTest(text=text):
            self.assertEqual(ask(load(text)), [[1]])


class Model:
    """A chain told by names: states are (name, worth, [(name, weight), ..])."""

    def __init__(self, title, states, start):
        self.title = title
        self.states = states
        self.start = start
        names = [name for name, _, _ in states]
        self.steps = [[(names.index(goal), Fraction(weight)) for goal, weight in steps] for _, _, steps in states]
        self.chances = []
        for number, steps in enumerate(self.steps):
            row = [Fraction(0)] * len(states)
            total = sum(weight for _, weight in steps)
            for goal, weight in steps:
                row[goal] = weight / total
            if not steps:
                row[number] = Fraction(1)
            self.chances.append(row)

    def form(self):
        lines = [f"chance {self.title}\n"]
        for name, worth, steps in self.states:
            line = name
            if worth:
                line += f" [{Fraction(worth)}]"
            if steps:
                line += " -> " + ", ".join(f"{goal} : {Fraction(weight)}" for goal, weight in steps)
            lines.append(line + " ;\n")
        lines.append(f"tell {self.start}\n")
        return "".join(lines)

    def after(self, i, n):
        now = [Fraction(int(k == i)) for k in range(len(self.states))]
        for _ in range(n):
            now = [sum(now[k] * self.chances[k][j] for k in range(len(now))) for j in range(len(now))]
        return now

    def reaches(self, j):
        """All states from which j can be come to, found by going over all chances until nothing is new."""
        found = {j}
        while True:
            more = {i for i, row in enumerate(self.chances) if any(row[k] for k in found)} | found
            if more == found:
                return found
            found = more

    def come(self, j):
        """The chances to come to j from each state, by elimination over fractions."""
        unknowns = sorted(self.reaches(j) - {j})
        told = [Fraction(0)] * len(self.states)
        told[j] = Fraction(1)
        for i, value in zip(unknowns, self.unknown(unknowns, [self.chances[i][j] for i in unknowns])):
            told[i] = value
        return told

    def unknown(self, unknowns, right):
        """The values of some states: each is what stands for it in the list, and what follows on average."""
        rows = [[int(i == k) - self.chances[i][k] for k in unknowns] for i in unknowns]
        return eliminated([row + [value] for row, value in zip(rows, right)])

    def back(self, j):
        if not self.steps[j]:
            return Fraction(0)
        column = self.come(j)
        return sum(share * column[k] for k, share in enumerate(self.chances[j]))

    def closed(self, j):
        """Whether j can be come to from every state that can be come to from j."""
        home = self.reaches(j)
        return all(k in home for k in range(len(self.states)) if j in self.reaches(k))

    def classes(self):
        """All classes: pairs of closed or not, and the states."""
        home = [self.reaches(j) for j in range(len(self.states))]
        groups = []
        for j in range(len(self.states)):
            states = [k for k in home[j] if j in home[k]]
            if j == min(states):
                groups.append((int(self.closed(j)), sorted(states)))
        return groups

    def visits(self, i, j):
        """None if they are without end. The walk is over at an end, so it is not counted on from there."""
        if i not in self.reaches(j):
            return 0
        if self.closed(j):
            return None if self.steps[j] else self.come(j)[i]
        passing = [k for k in range(len(self.states)) if not self.closed(k)]
        return self.unknown(passing, [int(k == j) for k in passing])[passing.index(i)]

    def halted(self, some_states):
        """The same chain with ends at some states."""
        states = [(name, worth, [] if k in some_states else row) for k, (name, worth, row) in enumerate(self.states)]
        return Model("Halted", states, self.start)

    def expected_steps(self, i, some_states):
        """None if it may be that none of the states is come to: if the chances to stop at them are not 1 together."""
        halted = self.halted(some_states)
        sure = [sum(row) == 1 for row in zip(*[halted.come(j) for j in some_states])]
        if not some_states or not sure[i]:
            return None
        unknowns = [k for k in range(len(sure)) if sure[k] and k not in some_states]
        return dict(zip(unknowns, self.unknown(unknowns, [1] * len(unknowns)))).get(i, 0)

    def gain(self, i):
        parts = [(Fraction(worth), self.visits(i, j)) for j, (_, worth, _) in enumerate(self.states) if worth]
        return None if any(count is None for _, count in parts) else sum(worth * count for worth, count in parts)

    def steady(self, states):
        """The shares that a step leaves as they are, with the last such equation given up for the sum of 1."""
        table = [[self.chances[i][j] - int(i == j) for i in states] + [0] for j in states[:-1]]
        return eliminated(table + [[1] * len(states) + [1]])

    def long(self, i):
        told = [Fraction(0)] * len(self.states)
        for closed, states in self.classes():
            if closed:
                for j, share in zip(states, self.steady(states)):
                    told[j] = self.come(j)[i] * share
        return told

    def period(self, j):
        """From the numbers of steps, up to four times the states, after which the walk may be back."""
        divisor = 0
        now = {j}
        for n in range(1, 4 * len(self.states) + 1):
            now = {k for i in now for k, share in enumerate(self.chances[i]) if share}
            if j in now:
                divisor = math.gcd(divisor, n)
        return divisor


def eliminated(table):
    """The unknowns of equations over fractions; behind each equation's factors stands what they add up to."""
    table = [[Fraction(value) for value in row] for row in table]
    for column in range(len(table)):
        pivot = next(at for at in range(column, len(table)) if table[at][column])
        table[column], table[pivot] = table[pivot], table[column]
        table[column] = [value / table[column][column] for value in table[column]]
        for at in range(len(table)):
            if at != column and table[at][column]:
                factor = table[at][column]
                table[at] = [one - factor * two for one, two in zip(table[at], table[column])]
    return [row[-1] for row in table]


def random_weight(source, most):
    if source.random() < 0.2:
        return Fraction(0)
    return Fraction(source.randint(0, most), source.randint(1, most))


def random_model(seed, most_states=6, most_steps=4, most=9):
    """A chain with ends, steps of weight 0 and worths, the same for the same seed."""
    source = random.Random(seed)
    names = [f"s{number}" for number in range(source.randint(1, most_states))]
    states = []
    for name in names:
        goals = source.sample(names, min(source.randint(0, most_steps), len(names)))
        steps = [(goal, random_weight(source, most)) for goal in goals]
        if steps and not any(weight for _, weight in steps):
            steps[0] = (steps[0][0], Fraction(1, most))
        worth = Fraction(source.randint(-most, most), source.randint(1, most))
        states.append((name, worth, steps))
    return Model("Any", states, source.choice(names))
