"""The document's words once more, written apart from the program.

It keeps nothing but the bytes and the dead sectors: whatever the ring knows
is read from the bytes anew each time, so that it also tells whether the ring,
kept from one settle to the next, is what an opening would find.
"""


class Model:
    def __init__(self):
        self.memory = []
        self.dead = []
        self.is_open = False
        self.acts = []

    def head(self, s):
        raw = bytes(self.memory[s][:48])
        if any(a + b != 255 for a, b in zip(raw[:24], raw[24:])):
            return None
        return tuple(int.from_bytes(raw[k:k + 8], "little") for k in (0, 8, 16))

    def walk(self, s):
        """The (kind, body) pairs of a sector and the place behind them."""
        row, at, found = self.memory[s], 48, []
        while at < len(row) and row[at] != 255:
            size = row[at + 1] + 256 * row[at + 2]
            found.append((row[at + 3], bytes(row[at + 4:at + 4 + size])))
            at += 4 + size
        return found, at

    def look(self):
        """What the ring knows: newest, there, place, number, spare's clean; or None."""
        heads = {s: self.head(s) for s in range(len(self.memory)) if self.head(s)}
        if not heads:
            return None
        newest = min(heads, key=lambda s: (-heads[s][0], s))
        found, place = self.walk(newest)
        if set(self.memory[newest][place:]) - {255}:
            place = len(self.memory[newest])
        least = max([heads[newest][1]] + [int.from_bytes(b, "little") for k, b in found if k == 0])
        there = {s: heads[s][0] for s in heads if heads[s][0] >= least}
        number = heads[newest][2] + sum(1 for k, b in found if k != 0)
        clean = set(self.memory[self.behind(newest)]) == {255}
        return newest, there, place, number, clean

    def behind(self, s):
        n = len(self.memory)
        others = [(s + k) % n for k in range(1, n) if (s + k) % n not in self.dead]
        return others[0] if others else s

    def make(self, n, m):
        if n not in range(4, 65) or m not in range(128, 4097):
            return [-1]
        self.memory = [[255] * m for _ in range(n)]
        half = [1, 0, 0, 0, 0, 0, 0, 0] * 3
        self.memory[0][:48] = half + [255 - b for b in half]
        self.dead, self.is_open, self.acts = [], True, []
        return [0]

    def opening(self, dead):
        if any(dead.count(s) > 1 or s >= len(self.memory) for s in dead):
            return [-1]
        if self.acts:
            return [-4]
        if self.look() is None:
            return [-2]
        self.dead, self.is_open = list(dead), True
        newest, there, place, number, clean = self.look()
        return [0, self.head(min(there, key=there.get))[2], number]

    @staticmethod
    def record(s, place, kind, body):
        return [(s, place + 1, [len(body) % 256, len(body) // 256, kind] + list(body)), (s, place, [0])]

    def new_sector(self):
        """The acts that begin a new sector, and that sector; or None."""
        newest, there, place, number, clean = self.look()
        m = len(self.memory[0])
        k = self.behind(newest)
        j = self.behind(k)
        if k == newest or j == k:
            return None
        acts, low = [], min(there.values())
        if k in there:
            if place + 12 > m or newest in self.dead:
                return None
            low = there[k] + 1
            acts += self.record(newest, place, 0, low.to_bytes(8, "little"))
        if k in there or not clean:
            acts.append((k,))
        if there.get(j, -1) >= low:
            low = there[j] + 1
        own = there[newest] + 1
        if all(age < low for s, age in there.items() if s != k):
            low = own
        half = [b for x in (own, low, number) for b in x.to_bytes(8, "little")]
        acts += [(k, 0, half + [255 - b for b in half]), (j,)]
        return acts, k

    def append(self, kind, body):
        m = len(self.memory[0])
        if kind not in range(1, 256) or any(b > 255 for b in body) or 76 + len(body) > m:
            return [-1]
        if self.acts or not self.is_open:
            return [-4]
        newest, there, place, number, clean = self.look()
        before = []
        if newest in self.dead or place + 4 + len(body) + 24 > m:
            begun = self.new_sector()
            if begun is None:
                return [-5]
            before, newest = begun
            place = 48
        self.acts = before + self.record(newest, place, kind, body)
        return [number, len(self.acts)]

    def act(self, act, mask=None):
        row = self.memory[act[0]]
        if len(act) == 1:
            for p in range(len(row)):
                row[p] |= 255 if mask is None else mask[p]
            return
        for p, byte in enumerate(act[2]):
            falling = row[act[1] + p] & ~byte
            if mask is not None:
                falling &= ~mask[p]
            row[act[1] + p] -= falling

    def settle(self):
        for act in self.acts:
            self.act(act)
        done, self.acts = len(self.acts), []
        return [done]

    def length(self, act):
        return len(self.memory[0]) if len(act) == 1 else len(act[2])

    def cut(self, i, mask):
        if i >= len(self.acts) or len(mask) != self.length(self.acts[i]) or any(b > 255 for b in mask):
            return [-1]
        for act in self.acts[:i]:
            self.act(act)
        self.act(self.acts[i], mask)
        self.acts, self.is_open = [], False
        return [0]

    def read(self, number):
        if not self.is_open:
            return [-4]
        found = {}
        for s in self.look()[1]:
            own = [pair for pair in self.walk(s)[0] if pair[0] != 0]
            found.update(enumerate(own, start=self.head(s)[2]))
        if number not in found:
            return [-2]
        kind, body = found[number]
        return [kind, *body]

    def die(self, s):
        if s >= len(self.memory):
            return [-1]
        if self.acts or not self.is_open:
            return [-4]
        if s in self.dead:
            return [-2]
        self.dead.append(s)
        return [0, len(self.dead)]

    def told(self):
        if not self.is_open:
            return [-4]
        newest, there, place, number, clean = self.look()
        first = min(self.head(s)[2] for s in there)
        return [0, first, number, len(there), newest, there[newest], place, self.behind(newest), int(clean),
                len(self.acts)]

    def sector(self, k):
        if k >= len(self.memory):
            return [-1]
        return [len(self.memory[k]), *self.memory[k]]

    def underway(self):
        given = [len(self.acts)]
        for act in self.acts:
            given += [1, act[0]] if len(act) == 1 else [0, act[0], act[1], len(act[2]), *act[2]]
        return given

    def call(self, row):
        """The answer of one call, given as the interface writes it."""
        if row[0] == 0:
            return self.make(row[1], row[2])
        if row[0] == 1:
            return self.opening(row[2:])
        if row[0] == 2:
            return self.append(row[1], row[3:])
        if row[0] == 3:
            return self.settle()
        if row[0] == 4:
            return self.cut(row[1], row[3:])
        return (self.read, self.die, self.told, self.sector, self.underway)[row[0] - 5](*row[1:])
