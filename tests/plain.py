"""A second, slow reckoning of plays and boards, address by address as the points tell it; without the program."""

import itertools

from tests.samples import plain_value


def parties(setup):
    return range(1, setup[1] + 1)


def addresses(setup, step):
    """All addresses of the form of point 20 for one round, in ascending order."""
    _, _, t, m = setup
    everybody, indexes, places = parties(setup), range(m), range(t + 1)
    two = [(j, k) for j in everybody for k in everybody if j != k]
    found = {
        1: [(1, i, j, a, u) for i, j in two for a in indexes for u in places],
        2: [(2, j, k, i, a) for j, k in two for i in everybody for a in indexes],
        3: [(3, j, 0, i, k) for j, k in two for i in everybody],
        4: [(4, i, 0, j, k, a) for i in everybody for j, k in two for a in indexes],
        5: [(5, j, 0, i) for j in everybody for i in everybody],
        6: [(6, i, 0, j, a, u) for i in everybody for j in everybody for a in indexes for u in places],
        7: [(7, j, 0, i) for j in everybody for i in everybody],
        8: [(8, j, 0, a) for j in everybody for a in indexes],
    }[step]
    return sorted(found)


def plain_table(setup, tape, a):
    """The coefficients of x to the j times y to the k of the polynomial number a of a tape, by (j, k)."""
    p, _, t, _ = setup
    places = [(j, k) for j in range(t + 1) for k in range(j, t + 1)]
    table = {}
    for at, (j, k) in enumerate(places):
        index = a * len(places) + at
        table[j, k] = table[k, j] = tape[index] if index < len(tape) else 0
    return table


def table_value(p, table, x, y):
    return sum(c * x ** j * y ** k for (j, k), c in table.items()) % p


def table_row(p, t, table, x):
    return [sum(table[j, u] * x ** j for j in range(t + 1)) % p for u in range(t + 1)]


class PlainBoard:
    """What posts say, where `said` has the number of each message that is there."""

    def __init__(self, setup, said):
        self.p, self.n, self.t, self.m = self.setup = setup
        self.said = said

    def opened(self, i, j, a):
        found = [self.said.get((6, i, 0, j, a, u)) for u in range(self.t + 1)]
        return None if None in found else found

    def complaints(self, i):
        """The pairs j, k with a complaint about the dealer i."""
        return [(j, k) for j in parties(self.setup) for k in parties(self.setup)
                if j != k and (3, j, 0, i, k) in self.said]

    def unhappy(self, i):
        return [j for j in parties(self.setup) if (5, j, 0, i) in self.said]

    def against(self, i):
        return [j for j in parties(self.setup) if (7, j, 0, i) in self.said]

    def reasons(self, i):
        found = set()
        if any((4, i, 0, j, k, a) not in self.said for j, k in self.complaints(i) for a in range(self.m)):
            found.add("answer")
        if any(self.opened(i, j, a) is None for j in self.unhappy(i) for a in range(self.m)):
            found.add("row")
        if len(set(self.unhappy(i)) | set(self.against(i))) > self.t:
            found.add("many")
        if any(self.clash(i, a) for a in range(self.m)):
            found.add("clash")
        return found

    def clash(self, i, a):
        answered = {(j, k): self.said[4, i, 0, j, k, a] for j, k in self.complaints(i)
                    if (4, i, 0, j, k, a) in self.said}
        rows = {j: self.opened(i, j, a) for j in self.unhappy(i) if self.opened(i, j, a) is not None}
        for (j, k), number in answered.items():
            if answered.get((k, j), number) != number:
                return True
            if j in rows and plain_value(self.p, rows[j], k) != number:
                return True
            if k in rows and plain_value(self.p, rows[k], j) != number:
                return True
        return any(plain_value(self.p, rows[j], k) != plain_value(self.p, rows[k], j)
                   for j, k in itertools.combinations(sorted(rows), 2))

    def outs(self):
        return tuple(i for i in parties(self.setup) if self.reasons(i))

    def told_polynomial(self, a):
        """The values from 0 to n of the polynomial of point 26, or None."""
        there = [(j, self.said[8, j, 0, a]) for j in parties(self.setup) if (8, j, 0, a) in self.said]
        for chosen in itertools.combinations(there, self.n - self.t):
            base = chosen[:self.t + 1]
            told = [lagrange(self.p, base, x) for x in range(self.n + 1)]
            if all(told[j] == number for j, number in chosen):
                return told
        return None

    def numbers(self):
        told = [self.told_polynomial(a) for a in range(self.m)]
        return None if None in told else tuple(values[0] for values in told)

    def blame(self):
        found = {(i, reason) for i in parties(self.setup) for reason in self.reasons(i)}
        for a in range(self.m):
            told = self.told_polynomial(a)
            if told is not None:
                found |= {(j, "share") for j in parties(self.setup) if self.said.get((8, j, 0, a)) != told[j]}
        return tuple(sorted(found))


def lagrange(p, pairs, x):
    """The value at x of the polynomial of the least degree through the pairs."""
    total = 0
    for j, y in pairs:
        part = y
        for k, _ in pairs:
            if k != j:
                part = part * (x - k) * pow(j - k, -1, p)
        total += part
    return total % p


class PlainPlay(PlainBoard):
    def __init__(self, setup, tapes, script):
        PlainBoard.__init__(self, setup, {})
        self.foes, self.rules = script
        self.tables = {(i, a): plain_table(setup, tapes[i - 1], a) for i in parties(setup) for a in range(self.m)}
        for step in range(1, 9):
            made = [(address, self.by_the_rules(address)) for address in addresses(setup, step)]
            self.said.update([(address, number) for address, number in made if number is not None])
            for address, change in self.rules:
                if address[0] == step:
                    self.change(step, address, change)

    def messages(self):
        return tuple(sorted(self.said.items()))

    def by_the_rules(self, address):
        """The number of the message with this address, or None if the rules of point 21 make none."""
        step, sender, rest = address[0], address[1], address[3:]
        if step == 1:
            return table_row(self.p, self.t, self.tables[sender, rest[0]], address[2])[rest[1]]
        if step == 2:
            return self.held_value(rest[0], sender, rest[1], address[2])
        if step == 3:
            return 1 if self.complains(sender, *rest) else None
        if step == 4:
            j, k, a = rest
            return table_value(self.p, self.tables[sender, a], j, k) if (3, j, 0, sender, k) in self.said else None
        if step == 5:
            return 1 if self.is_unhappy(sender, rest[0]) else None
        if step == 6:
            j, a, u = rest
            return table_row(self.p, self.t, self.tables[sender, a], j)[u] if (5, j, 0, sender) in self.said else None
        if step == 7:
            return 1 if self.is_against(sender, rest[0]) else None
        return self.share(sender, rest[0])

    def held(self, i, j, a):
        if i == j:
            return table_row(self.p, self.t, self.tables[i, a], i)
        return [self.said.get((1, i, j, a, u), 0) for u in range(self.t + 1)]

    def held_value(self, i, j, a, x):
        return plain_value(self.p, self.held(i, j, a), x)

    def complains(self, j, i, k):
        return any(self.said.get((2, k, j, i, a)) != self.held_value(i, j, a, k) for a in range(self.m))

    def is_unhappy(self, j, i):
        for pair in self.complaints(i):
            if j in pair:
                other = pair[0] if pair[1] == j else pair[1]
                for a in range(self.m):
                    if self.said.get((4, i, 0) + pair + (a,)) != self.held_value(i, j, a, other):
                        return True
        return False

    def is_against(self, j, i):
        if j in self.unhappy(i):
            return False
        for k in self.unhappy(i):
            for a in range(self.m):
                f = self.opened(i, k, a)
                if f is None or plain_value(self.p, f, j) != self.held_value(i, j, a, k):
                    return True
        return False

    def share(self, j, a):
        total = 0
        for i in set(parties(self.setup)) - set(self.outs()):
            total += (self.opened(i, j, a) if j in self.unhappy(i) else self.held(i, j, a))[0]
        return total % self.p

    def change(self, step, address, change):
        if change[0] == "is":
            self.said[address] = change[1]
        elif change[0] == "add" and address in self.said:
            self.said[address] = (self.said[address] + change[1]) % self.p
        elif change[0] == "drop":
            self.said.pop(address, None)
        elif change[0] == "copy":
            other = change[1]
            known = other[1] in self.foes or other[2] in self.foes or other[2] == 0
            if other in self.said and other[0] <= step and known:
                self.said[address] = self.said[other]
