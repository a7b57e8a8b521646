"""Promise 24 word by word and minute by minute, to hold a Deck against it."""

from tests.rows import carried


def is_borne(boats, spans, load):
    """Promise 10 by bearings alone."""
    if any(weight > bears for weight, bears in zip(load, spans, strict=True)):
        return False
    return all(borne <= 2 * bears for borne, bears in zip(carried(load), boats, strict=True))


class PlainDeck:
    """Works each minute, and keeps all that happened."""

    def __init__(self, boats, spans, part, out=5, rest=30, turn=3, rule=None):
        self.boats, self.spans, self.part = boats, spans, part
        self.out, self.rest, self.most, self.rule = out, rest, turn, rule
        self.minute = 0
        self.told = []
        self.lines = {"near": [], "far": [], "ships": []}
        self.carts = []
        self.bank, self.went = "near", 0
        self.hours = []
        # The last of "out", "through", "back" and "down", its minute, and how long it lasts.
        self.last, self.began, self.lasts = "down", None, 0

    def cart(self, name, bank, weight, at):
        self.told.append((at, bank, (name, weight)))

    def ship(self, name, long, at):
        self.told.append((at, "ships", (name, long)))

    def rest_hours(self, stretch):
        self.hours.append(stretch)

    def work(self):
        """Works one minute; its events."""
        m, self.minute = self.minute, self.minute + 1
        for at, line, thing in self.told:
            if at == m:
                self.lines[line].append(thing)
        return [(m, *event) for event in [*self.carts_go_on(), *self.part_goes_on(m), *self.rest_of_it(m)]]

    def carts_go_on(self):
        for cart in list(self.carts):
            cart["span"] += cart["by"]
            if cart["span"] in (-1, len(self.spans)):
                self.carts.remove(cart)
                yield "off", cart["name"], "near" if cart["span"] == -1 else "far"

    def part_goes_on(self, m):
        if self.last == "down" or m != self.began + self.lasts:
            return
        self.began = m
        if self.last == "back":
            self.last = "down"
            yield ("down",)
        elif self.lines["ships"]:
            name, self.lasts = self.lines["ships"].pop(0)
            self.last = "through"
            yield "through", name
        else:
            self.last, self.lasts = "back", self.out
            yield ("back",)

    def rest_of_it(self, m):
        rested = self.last == "down" and (self.began is None or m >= self.began + self.rest)
        called = self.lines["ships"] and rested and (self.rule is None or self.rule.allows(m))
        if called and not any(self.meets_part(cart) for cart in self.carts):
            self.last, self.began, self.lasts = "out", m, self.out
            yield ("out",)
        if self.last != "down" or called or any(s.first <= m < s.behind for s in self.hours):
            return
        over = "far" if self.bank == "near" else "near"
        if not self.carts and self.lines[over] and (not self.lines[self.bank] or self.went >= self.most):
            self.bank, over, self.went = over, self.bank, 0
            yield "turn", self.bank
        if self.lines[self.bank] and (self.went < self.most or not self.lines[over]) and self.has_room():
            self.carts.append(self.first_cart())
            self.went += 1
            yield "on", self.lines[self.bank].pop(0)[0], self.bank

    def meets_part(self, cart):
        first, last = self.part
        span = cart["span"]
        while 0 <= span < len(self.spans):
            if first <= span <= last:
                return True
            span += cart["by"]
        return False

    def first_cart(self):
        name, weight = self.lines[self.bank][0]
        first, by = (0, 1) if self.bank == "near" else (len(self.spans) - 1, -1)
        return {"name": name, "weight": weight, "span": first, "by": by}

    def has_room(self):
        cart = self.first_cart()
        if any(other["span"] == cart["span"] for other in self.carts):
            return False
        return all(
            is_borne(self.boats, self.spans, self.load_of([*self.carts, cart], later))
            for later in range(len(self.spans))
        )

    def load_of(self, carts, later=0):
        load = [0] * len(self.spans)
        for cart in carts:
            span = cart["span"] + later * cart["by"]
            if 0 <= span < len(load):
                load[span] += cart["weight"]
        return load

    def answers(self):
        """All that promise 25 tells."""
        return {
            "now": self.minute,
            "mode": {"through": "open"}.get(self.last, self.last),
            "turn": self.bank,
            "on_deck": {cart["name"]: cart["span"] for cart in self.carts},
            "load": self.load_of(self.carts),
            "near": [name for name, _ in self.lines["near"]],
            "far": [name for name, _ in self.lines["far"]],
            "ships": [name for name, _ in self.lines["ships"]],
        }


def answers(deck):
    """The same of a Deck."""
    return {
        "now": deck.now(), "mode": deck.mode(), "turn": deck.turn(), "on_deck": deck.on_deck(), "load": deck.load(),
        "near": deck.line("near"), "far": deck.line("far"), "ships": deck.ships(),
    }
