"""Releases and images for devices, made for the tests of devices, fleets and lives."""

import random

from checks import code, kept, unit
from romwright.image import image_of
from romwright.lay import layings
from romwright.link import link
from romwright.pick import pick
from romwright.script import Script

HOMES = (2000, 5000)
SECRET = 678
PRODUCT = 7
SCRIPTS = [
    ["region flash rom 16 500", "region work ram 1 60", "place text in flash align 1 fill 0 take *.[code] *.[const]",
     "place vars in work load flash align 1 fill 0 take *.*", "entry begin", "keep *.*"],
    ["region low rom 16 200", "region high rom 216 300", "region work ram 100 60",
     "free fa in low high align 2 fill 0 take *.[code]", "free fb in high low align 1 fill 3 take *.[const]",
     "place vars in work load high align 4 fill 0 take *.*", "entry begin", "keep *.*"],
]


def image(units, home=HOMES[0], version=1, level=0, script=0, which=0, product=PRODUCT, secret=SECRET):
    """An image of units, by one of the scripts and one of the layings."""
    rows = list(layings(pick(Script(SCRIPTS[script]), units), home))
    return image_of(link(rows[which % len(rows)]), product=product, version=version, level=level, secret=secret)


def program_of(units):
    return pick(Script(SCRIPTS[0]), units).program


def plain_units(items, exports=(), **cells):
    """A unit with a section of these instructions and kept cells."""
    sections = [code("main", [*items, ("halt",)], [("begin", 0)])]
    for name, takes, leaves, body in exports:
        sections.append(code(name, [*body, ("ret",)], [(name, 0)], [(name, takes, leaves)]))
    return [unit("app", *sections, kept("store", **(cells or {"count": 0})))]


def some_items(rng, names):
    items = []
    for _ in range(rng.randint(2, 7)):
        choice = rng.randrange(12)
        name = rng.choice(names)
        if choice < 2:
            items += [("push", rng.randint(0, 9)), ("out",)]
        elif choice < 4:
            items += [("name", name, 0), ("load",), ("out",)]
        elif choice < 6:
            items += [("push", rng.randint(0, 9)), ("name", name, 0), ("load",), ("add",), ("name", name, 0), ("store",)]
        elif choice < 8:
            items += [("save",)]
        elif choice < 9:
            items += [("confirm",)]
        elif choice < 11:
            items += [("ask",), ("name", name, 0), ("store",)]
        else:
            items += [("call", "sub")]
    return items


def made_units(rng):
    """A unit by chance that prints, asks, calls, saves and confirms."""
    names = rng.sample(["ka", "kb", "kc", "kd"], rng.randint(1, 3))
    end = rng.choice([[("halt",)], [("go", "begin")], [("ret",)], [("ask",), ("unless", "begin"), ("halt",)],
                      [("far", "zz", "f", 0, 1), ("out",), ("go", "begin")]])
    many = {f"m{k}": k for k in range(rng.choice([0, 0, 0, 22, 23]))}
    sections = [code("main", some_items(rng, names) + end, [("begin", 0)]),
                code("sub", [("push", 1), ("name", names[0], 0), ("load",), ("add",), ("out",), ("ret",)], [("sub", 0)]),
                kept("kept", **{name: rng.randint(0, 99) for name in names}, **many)]
    if rng.random() < 0.7:
        takes, leaves = rng.randint(0, 2), rng.randint(0, 2)
        body = [("drop",)] * takes + some_items(rng, names) + [("push", 3)] * leaves + [("ret",)]
        sections.append(code("exp", body, [("serve", 0)], [("serve", takes, leaves)]))
    return [unit("app", *sections)]


def made_image(units, rng, **told):
    return image(units, script=rng.randrange(2), which=rng.randrange(12), **told)


def seeded(*numbers):
    return random.Random(str(numbers))
