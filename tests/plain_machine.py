"""The machine once more, slow and plain: each step is tried on a copy, and names are led to places by the formula.

It shares no code with the program, so that the two can be held against each other.
"""

import copy

W = 2 ** 64


class Refused(Exception):
    pass


def refuse(reason):
    raise Refused(reason)


def need(condition, reason):
    if not condition:
        refuse(reason)


def signed(number):
    return number - W if number >= W // 2 else number


class PlainMachine:
    def __init__(self):
        self.begin()

    def begin(self):
        self.words = {}
        self.why = 0
        # All that a step may change.
        self.now = {
            "r": {}, "stack": {}, "p": {0: 1}, "b": {}, "LC": 0, "EC": 0, "PFS": 0, "bottom": 0, "memory": {},
            "s": 96, "l": 0, "t": 0, "g": 0, "h": 0, "at": 0, "noted": [],
        }

    # Registers and predicates

    def where(self, name):
        now = self.now
        if name < 32:
            return ("r", name)
        i = name - 32
        if name > 127 or i >= now["s"]:
            return None
        if i < now["t"]:
            i = (i + now["g"]) % now["t"]
        return ("stack", now["bottom"] + i)

    def get(self, name):
        place = self.where(name)
        need(place is not None, 2)
        return self.now[place[0]].get(place[1], 0)

    def put(self, name, value):
        self.may_put(name)
        place = self.where(name)
        self.now[place[0]][place[1]] = value if value is None else value % W

    def may_put(self, name):
        need(name != 0 and self.where(name) is not None, 2)

    def p_where(self, name):
        return name if name < 16 else 16 + (name - 16 + self.now["h"]) % 48

    def p(self, name):
        return self.now["p"].get(self.p_where(name), 0)

    def put_p(self, name, value):
        if name:
            self.now["p"][self.p_where(name)] = int(value)

    def all_p(self):
        return sum(self.p(name) << name for name in range(64))

    def put_all_p(self, number):
        for name in range(64):
            self.put_p(name, number >> name & 1)

    def number(self, name):
        value = self.get(name)
        need(value is not None, 5)
        return value

    # Steps

    def run(self, n):
        self.why = 0
        for done in range(n):
            before = copy.deepcopy(self.now)
            try:
                self.step()
            except Refused as refused:
                self.now = before
                self.why = refused.args[0]
                return done
        return n

    def step(self):
        need(self.now["at"] < 4096, 6)
        row = self.words.get(self.now["at"], 0).to_bytes(8, "little")
        what, q, x, y, z = row[:5]
        n = int.from_bytes(row[5:], "little", signed=True)
        need(q < 64, 2)
        need(q == 0 or what not in (44, 45, 46), 2)
        self.there = self.now["at"] + 1
        so = self.p(q) == 1
        if 20 <= what <= 24:
            self.compare(so, what, x, y, z, n)
        elif 45 <= what <= 48:
            self.loop(so, what, n)
        elif so:
            self.do(what, x, y, z, n)
        self.now["at"] = self.there

    def on_at(self, n):
        self.there = self.now["at"] + n
        need(0 <= self.there <= 4095, 6)

    def turn(self):
        now = self.now
        now["g"] = (now["g"] - 1) % now["t"] if now["t"] else 0
        now["h"] = (now["h"] - 1) % 48

    def loop(self, so, what, n):
        now = self.now
        goes_on = now["LC"] != 0 if what in (45, 46) else so
        if goes_on:
            if what in (45, 46):
                now["LC"] -= 1
            self.put_p(63, what in (45, 46))
            self.turn()
        elif now["EC"] > 1:
            now["EC"] -= 1
            self.put_p(63, 0)
            self.turn()
            goes_on = True
        elif now["EC"] == 1:
            now["EC"] = 0
            self.put_p(63, 0)
            self.turn()
        else:
            self.put_p(63, 0)
        if what in (45, 47) and goes_on or what in (46, 48) and not goes_on:
            self.on_at(n)

    def compare(self, so, what, x, y, z, n):
        a, rest = divmod(n, 256)
        way, other = divmod(rest, 64)
        good = 0 <= a < (64 if what == 23 else 1) and x < 64 and (x != other or x == 0)
        if not so:
            if good and way == 1:
                self.put_p(x, 0)
                self.put_p(other, 0)
            return
        need(good, 2)
        second = self.get(z)
        first = self.get(y) if what < 23 else 0
        if what == 24:
            found = second is None
        elif first is None or second is None:
            if way < 3:
                self.put_p(x, 0)
                self.put_p(other, 0)
            return
        else:
            found = {
                20: first == second, 21: signed(first) < signed(second), 22: first < second, 23: second >> a & 1 == 1,
            }[what]
        if way < 2:
            self.put_p(x, found)
            self.put_p(other, not found)
        elif way == 2 and not found or way == 3 and found:
            self.put_p(x, way == 3)
            self.put_p(other, way == 3)

    def do(self, what, x, y, z, n):
        need(what != 0, 1)
        if what == 1:
            return
        if 2 <= what <= 19:
            self.reckon(what, x, y, z, n)
        elif what == 30:
            self.load(x, z, n)
        elif what == 31:
            self.store(y, z, n)
        elif what == 32:
            if self.get(y) is None:
                self.on_at(n)
        elif what == 33:
            self.get(y)
            if self.where(y) not in [entry[0] for entry in self.now["noted"]]:
                self.on_at(n)
        elif 40 <= what <= 44:
            self.go(what, x, y, n)
        elif 49 <= what <= 60:
            self.move(what, x, y, n)
        else:
            refuse(2)

    def reckon(self, what, x, y, z, n):
        self.may_put(x)
        need(what != 12 or n in (1, 2, 3, 4), 2)
        need(what not in (17, 18) or n in (1, 2, 4), 2)
        need(what != 19 or 1 <= n // 64 <= 64, 2)
        first = self.get(y) if what in (2, 3, 5, 6, 7, 8, 9, 10, 11, 12, 13, 14) else 0
        second = self.get(z) if what != 15 else 0
        if first is None or second is None:
            self.put(x, None)
            return
        small = min(second, 200)
        self.put(x, {
            2: lambda: first + second, 3: lambda: first - second, 4: lambda: second + n, 5: lambda: first & second,
            6: lambda: first | second, 7: lambda: first ^ second, 8: lambda: first & (W - 1 - second),
            9: lambda: first * 2 ** small, 10: lambda: signed(first) // 2 ** small, 11: lambda: first // 2 ** small,
            12: lambda: first * 2 ** n + second, 13: lambda: first * second, 14: lambda: first * second // W,
            15: lambda: n, 16: lambda: bin(second).count("1"),
            17: lambda: (second + 2 ** (8 * n - 1)) % 2 ** (8 * n) - 2 ** (8 * n - 1),
            18: lambda: second % 2 ** (8 * n), 19: lambda: second // 2 ** (n % 64) % 2 ** (n // 64),
        }[what]())

    def load(self, x, z, n):
        now = self.now
        self.may_put(x)
        at = self.get(z)
        need(0 <= n < 20, 2)
        how, k = divmod(n, 4)
        size = 2 ** k
        mine = self.where(x)
        if how == 4 and mine in [entry[0] for entry in now["noted"]]:
            return
        now["noted"] = [entry for entry in now["noted"] if entry[0] != mine]
        bad = 5 if at is None else 3 if at % size or at + size > 65536 else 0
        if bad:
            need(how in (1, 3), bad)
            self.put(x, None)
            return
        self.put(x, sum(now["memory"].get(at + j, 0) * 256 ** j for j in range(size)))
        if how in (2, 3):
            now["noted"] = (now["noted"] + [(mine, at, size)])[-32:]

    def store(self, y, z, n):
        value = self.get(y)
        at = self.get(z)
        need(0 <= n < 4, 2)
        need(value is not None and at is not None, 5)
        size = 2 ** n
        need(at % size == 0 and at + size <= 65536, 3)
        for j in range(size):
            self.now["memory"][at + j] = value // 256 ** j % 256
        touched = set(range(at, at + size))
        self.now["noted"] = [
            (mine, noted_at, noted_size) for mine, noted_at, noted_size in self.now["noted"]
            if not touched & set(range(noted_at, noted_at + noted_size))
        ]

    def kept(self):
        now = self.now
        return now["s"] + now["l"] * 2 ** 7 + now["t"] * 2 ** 14 + now["g"] * 2 ** 21 + now["h"] * 2 ** 28

    def go(self, what, x, y, n):
        now = self.now
        if what == 40:
            self.on_at(n)
        elif what == 41:
            need(x < 8, 2)
            need(now["bottom"] + now["s"] <= 4096, 4)
            self.on_at(n)
            now["b"][x] = now["at"] + 1
            now["PFS"] = self.kept() + now["EC"] * 2 ** 52
            now["bottom"] += now["l"]
            now["s"] -= now["l"]
            now["l"] = now["t"] = now["g"] = now["h"] = 0
        elif what == 42:
            need(y < 8, 2)
            fields = [("s", 0, 7), ("l", 7, 7), ("t", 14, 7), ("g", 21, 7), ("h", 28, 6), ("EC", 52, 6)]
            for field, start, bits in fields:
                now[field] = now["PFS"] // 2 ** start % 2 ** bits
            need(now["s"] <= 96 and now["l"] <= now["s"] and now["t"] <= now["s"] and now["t"] % 8 == 0, 4)
            need(now["g"] < now["t"] or now["g"] == 0, 4)
            need(now["h"] <= 47 and now["l"] <= now["bottom"], 4)
            now["bottom"] -= now["l"]
            need(now["bottom"] + now["s"] <= 4096, 4)
            self.there = now["b"].get(y, 0)
        elif what == 43:
            need(y < 8, 2)
            self.there = now["b"].get(y, 0)
        elif now["LC"]:
            now["LC"] -= 1
            self.on_at(n)

    def move(self, what, x, y, n):
        now = self.now
        if what == 49:
            now["g"] = now["h"] = 0
        elif what == 50:
            rest, size = divmod(n, 128)
            turning, own = divmod(rest, 128)
            need(0 <= turning < 128 and x >= 32, 2)
            need(turning == now["t"] or now["g"] == now["h"] == 0, 4)
            need(size <= 96 and own <= size and turning <= size and turning % 8 == 0, 2)
            need(now["bottom"] + size <= 4096, 4)
            need(x < 32 + size, 2)
            now["s"], now["l"], now["t"] = size, own, turning
            self.put(x, now["PFS"])
        elif what == 51:
            self.may_put(x)
            need(y < 8, 2)
            self.put(x, now["b"].get(y, 0))
        elif what == 52:
            need(x < 8, 2)
            now["b"][x] = self.number(y)
        elif what in (53, 55, 57, 59):
            self.put(x, {53: now["LC"], 55: now["EC"], 57: now["PFS"], 59: self.all_p()}[what])
        elif what == 60:
            self.put_all_p(self.number(y))
        else:
            name, limit = {54: ("LC", W), 56: ("EC", 64), 58: ("PFS", W)}[what]
            now[name] = self.number(y) % limit

    # Calls

    def ep_get(self, which):
        now = self.now
        if which < 128:
            place = self.where(which)
            if place is None:
                return [-1]
            value = now[place[0]].get(place[1], 0)
            return [-2] if value is None else [0, value]
        if which < 136:
            return [0, now["b"].get(which - 128, 0)]
        if which > 142:
            return [-1]
        return [0, {
            136: now["LC"], 137: now["EC"], 138: now["PFS"], 139: self.all_p(), 140: now["at"], 141: now["bottom"],
            142: self.kept(),
        }[which]]

    def ep_set(self, which, value):
        now = self.now
        if which < 128:
            if which == 0 or self.where(which) is None:
                return [-1]
            self.put(which, value)
        elif which < 136:
            now["b"][which - 128] = value
        elif which == 139:
            self.put_all_p(value)
        elif which in (136, 137, 138, 140):
            now[{136: "LC", 137: "EC", 138: "PFS", 140: "at"}[which]] = value % (64 if which == 137 else W)
        else:
            return [-1]
        return [0]

    def look(self, at, n):
        return [0] + [self.now["memory"].get(at + j, 0) for j in range(n)]


def answers_of(calls):
    """What answers() should give for these calls (lists of numbers), each well formed and none too large."""
    machine = PlainMachine()
    told = []
    for call in calls:
        number = call[0]
        if number == 0:
            machine.begin()
            answer = [0]
        elif number == 1:
            machine.words = dict(enumerate(call[3:]))
            answer = [0]
        elif number == 2:
            for j, byte in enumerate(call[4:]):
                machine.now["memory"][call[1] + j] = byte
            answer = [0]
        elif number == 3:
            answer = machine.look(call[1], call[2])
        elif number == 4:
            answer = [machine.run(call[1])]
        elif number == 5:
            answer = [machine.why]
        elif number == 6:
            answer = machine.ep_get(call[1])
        else:
            answer = machine.ep_set(call[1], call[2])
        told += [len(answer)] + answer
    return told
