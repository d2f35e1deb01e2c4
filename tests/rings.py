"""Plain second reckonings of rings, houses and panels."""

import itertools

from tests import plain


def ring_texts(most):
    """All texts of rings with so many signs at most."""
    texts = ["".join(signs) for many in range(1, most + 1) for signs in itertools.product("so", repeat=many)]
    return [text for text in texts if "s" in text]


def walk(text, end, faults):
    """[7.4], step by step over stretches and signs."""
    seekers = iter(range(text.count("s")))
    zone = 0
    steps = []
    for place, sign in enumerate(text):
        steps.append(("stretch", place, zone))
        steps.append((sign, next(seekers) if sign == "s" else None, None))
        zone += sign == "o"
    steps.append(("stretch", len(text), zone))
    dead = {home for _, stretch, home in steps if ("short", stretch) in faults and home is not None}
    passed = []
    for word, index, home in steps if end == "left" else reversed(steps):
        if word == "stretch" and (("cut", index) in faults or home in dead):
            break
        if word == "s":
            passed.append(index)
    return passed


def reached(text, faults):
    return tuple(sorted(set(walk(text, "left", faults)) | set(walk(text, "right", faults))))


def all_faults(text):
    return tuple((word, stretch) for stretch in range(len(text) + 1) for word in ("cut", "short"))


def some_ring(chance, most=10):
    while True:
        text = "".join(chance.choice("sso") for _ in range(chance.randint(1, most)))
        if "s" in text:
            return text


def some_faults(chance, text, most=4):
    return chance.choices(all_faults(text), k=chance.randint(0, most))


def no_faults(text):
    """Objects that are no faults of this ring."""
    return plain.ANY_OBJECTS + plain.WHOLE_NUMBERS + (
        ("cut", len(text) + 1), ("short", len(text) + 1), ("cut", -1), ("Cut", 0), ("cut",), ("short", 0, 0),
        ["cut", 0], ("cut", True), ("short", False), ("cut", "0"), ("cut", None), (0, "cut"), "cut", ("cut", [0]),
        (("cut",), 0), (["cut"], 0), ("cut", 10 ** 39), (("cut", 0),), ("open", 0),
    )


class PlainPanel:
    """[7.7], [7.8] by lists of counts."""

    def __init__(self, text, mark, rows, need):
        self.text, self.mark, self.rows, self.need = text, mark, rows, need
        self.faults = set()
        self.reset()

    def reset(self):
        self.counts = [0] * self.text.count("s")
        self.alarmed = False

    def beat(self, levels):
        heard = reached(self.text, self.faults)
        for seeker, level in enumerate(levels):
            self.counts[seeker] = self.counts[seeker] + 1 if seeker in heard and level > self.mark else 0
        before = self.alarmed
        self.alarmed = sum(count >= self.rows for count in self.counts) >= self.need
        return self.alarmed and not before

    def told(self):
        faults = tuple(fault for fault in all_faults(self.text) if fault in self.faults)
        return faults, reached(self.text, self.faults), tuple(self.counts), self.alarmed


def panel_told(panel):
    return panel.faults, panel.heard, panel.counts, panel.alarmed
