"""Programs, scripts and events made by chance, from a seed."""

import random

from romwright.pick import Archive, pick
from romwright.plain import RomError
from romwright.script import Script
from romwright.units import Section, Unit

SCRIPTS = [
    ["region flash rom 16 1500", "region work ram 1 900", "place text in flash align 1 fill 7 take *.[code] *.[const]",
     "place vars in work load flash align 4 fill 9 take *.*", "entry begin"],
    ["region low rom 16 700", "region high rom 800 1200", "region work ram 3 400", "region more ram 500 500",
     "place fast in work load high align 2 fill 1 take a.one *.[kept]",
     "overlay both in more load low fill 3", "part pa align 2 take b.one *.two", "part pb align 8 take *.three c.one",
     "place zeros in work align 1 fill 0 take *.[zero]", "place vars in work load low align 1 fill 0 take *.[data]",
     "free ca in low high align 4 fill 5 take a.*", "free cb in high low align 8 fill 6 take b.* c.*",
     "place rest in high align 1 fill 2 take *.[code] *.[const]", "entry begin", "keep a.*"],
    ["region flash rom 16 2000", "region work ram 1 300", "region over ram 400 300",
     "overlay ov in over load flash fill 0", "part px align 1 take a.two", "part py align 1 take b.*",
     "overlay ow in over load flash fill 4", "part pz align 1 take c.two c.three", "part pw align 4 take *.nine",
     "free fa in flash align 1 fill 0 take *.[code]", "free fb in flash align 16 fill 1 take *.[const]",
     "place vars in work load flash align 1 fill 0 take *.*", "entry begin", "keep b.*", "keep *.[kept]"],
]
NAMES = ("one", "two", "three", "four", "five")


class Maker:
    def __init__(self, seed, long=False):
        self.rng = random.Random(seed)
        self.long = long
        self.codes = []
        self.datas = []
        self.serial = 0

    def name(self, letter):
        self.serial += 1
        return f"{letter}{self.serial}"

    def plan(self, unit):
        """The sections of a unit, with their kinds and symbols, as dicts; bodies come later."""
        rows = []
        for name in NAMES[:self.rng.randint(1, 5)]:
            kind = self.rng.choice(["code", "code", "code", "const", "data", "zero", "kept"])
            row = {"unit": unit, "name": name, "kind": kind, "symbols": [], "exports": []}
            row["align"] = self.rng.choice([1, 1, 1, 2, 4, 16])
            row["fixed"] = kind == "code" and self.rng.random() < 0.3
            row["size"] = 0 if kind == "code" else self.rng.randint(0, 5)
            if kind == "code":
                symbol = self.name("f")
                row["symbols"].append((symbol, 0, "global"))
                self.codes.append(symbol)
                if self.rng.random() < 0.3:
                    row["exports"].append((symbol, self.rng.randint(0, 2), self.rng.randint(0, 2)))
            elif kind == "kept":
                row["symbols"] = [(self.name("k"), place, "global") for place in range(row["size"])]
            else:
                symbol = self.name("d")
                binding = self.rng.choice(["global", "weak"])
                row["symbols"].append((symbol, self.rng.randint(0, row["size"]), binding))
            if kind not in ("code", "kept") and row["size"] > 0:
                self.datas.append((row["symbols"][0][0], row["symbols"][0][1], row["size"]))
            elif kind == "kept":
                self.datas.extend([(each[0], each[1], row["size"]) for each in row["symbols"]])
            rows.append(row)
        return rows

    def snippet(self, label):
        """Some instructions that leave the stack as it was."""
        rng = self.rng
        choice = rng.randint(0, 11)
        word = rng.choice([0, 1, 2, 3, 255, 65535])
        if choice < 2:
            return [("push", word), ("push", rng.randint(0, 3)), (rng.choice(["add", "sub", "mul", "less", "same"]),),
                    ("out",)]
        if choice < 4 and self.datas:
            name, place, size = rng.choice(self.datas)
            return [("name", name, (rng.randrange(size) - place) % 65536), ("load",), ("out",)]
        if choice < 6 and self.datas:
            name, place, size = rng.choice(self.datas)
            return [("push", word), ("name", name, (rng.randrange(size) - place) % 65536), ("store",)]
        if choice == 6:
            return [("ask",), ("out",)]
        if choice == 7:
            return [("ask",), ("unless", label), ("push", 1), ("out",)]
        if choice == 8 and self.codes:
            target = rng.choice(self.codes)
            return [("bring", target), ("call", target)]
        if choice == 9:
            return [("far", "peer", rng.choice(["f", "g"]), 0, 1), ("out",)]
        if choice == 10:
            return [(rng.choice(["save", "confirm"]),)]
        return [("dup",), ("drop",)] if rng.random() < 0.2 else [("push", word), ("drop",)]

    def body(self, row, first):
        rng = self.rng
        if row["kind"] == "zero":
            return [0] * row["size"]
        if row["kind"] != "code":
            items = [rng.randint(0, 65535) for _ in range(row["size"])]
            if row["kind"] != "kept" and items and self.datas and rng.random() < 0.4:
                items[0] = ("at", rng.choice(self.datas)[0], rng.randint(0, 2))
            return items
        label = self.name("l")
        items = []
        limit = 25 if row["fixed"] else rng.choice([10, 30, 85])
        if self.long:
            limit = 34 if row["fixed"] else 90
        where = rng.randint(0, 5)
        while len(items) < limit and (len(items) < 4 or rng.random() < (0.99 if self.long else 0.9)):
            if len(items) >= where and label:
                row["symbols"].append((label, len(items), "local"))
                where = 1000
            items.extend(self.snippet(label))
        if where < 1000:
            row["symbols"].append((label, len(items), "local"))
        export = row["exports"][0] if row["exports"] else None
        if export:
            items.extend([("drop",)] * max(0, export[1] - export[2]))
            items.extend([("push", 4)] * max(0, export[2] - export[1]))
        items.append(("halt",) if first and rng.random() < 0.5 else rng.choice([("ret",), ("ret",), ("go", label)]))
        return items

    def units(self, names):
        rows = [row for name in names for row in self.plan(name)]
        if not any(row["kind"] == "code" for row in rows):
            rows[0].update(kind="code", symbols=[], size=0)
        first = [row for row in rows if row["kind"] == "code"][0]
        first["symbols"].append(("begin", 0, "global"))
        made = {name: [] for name in names}
        for row in rows:
            body = self.body(row, row is first)
            made[row["unit"]].append(Section(row["name"], row["kind"], body, align=row["align"], fixed=row["fixed"],
                                             symbols=row["symbols"], exports=row["exports"]))
        return [Unit(name, made[name]) for name in names]


def made_picked(seed, long=False):
    """(script, units, archives) by chance, by which a program can be picked; and the program."""
    while True:
        maker = Maker(seed, long)
        try:
            units = maker.units(["a", "b", "c", "d"][:maker.rng.randint(2, 4)])
            archives = []
            if maker.rng.random() < 0.5 and "begin" in units[0]:
                archives = [Archive("lib", units[1:])]
                units = units[:1]
            script = Script(maker.rng.choice(SCRIPTS))
            return script, units, archives, pick(script, units, archives)
        except RomError:
            seed += 100000


def row_of_events(device, rng, length, words=(0, 1, 7)):
    """Meets a row of events by chance with a device; the events, and what it told."""
    events, told = [], []
    while len(events) < length and (not told or told[-1][-1] != ("hangs",)):
        choices = list(device.events(words))
        event = rng.choice(choices[1:] or choices)
        events.append(event)
        told.append(device.meet(event))
    return events, told
