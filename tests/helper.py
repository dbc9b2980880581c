"""What several test files use: markets, checks, and a plain telling of the document to compare with."""

from random import Random

from spiraldue.errors import NoEnd
from spiraldue.market import Market

FULL = ("share", 1000)
TO_A = (("a", 1),)
TO_B = (("b", 1),)
OUT = ((None, 1),)


class Hostile:
    """A value that can not even be compared."""

    def __eq__(self, other):
        raise RuntimeError("compared")

    __hash__ = __bool__ = __len__ = __iter__ = __lt__ = __gt__ = __int__ = __index__ = __eq__


# Values of all kinds that may stand where a paper, or a part of one, is looked for.
JUNK = (None, True, False, 0, 1, -1, 10 ** 30, 1.5, "", "a", "storm", "rounds", "lower", "open", "unit", "insurer",
        "external", b"rounds", (), (1,), ("a",), (None,), ((),), (True, False), ("rounds",), ("open", "a", "b"),
        [], [1], ["rounds", []], {}, {"a": 1}, {1}, (("a", 0),), [("a", 0)], Hostile())


def market_of(insurers, events=("storm",)):
    """A market with these insurers and events."""
    market = Market()
    for name in insurers:
        market.add_insurer(name)
    for name in events:
        market.add_event(name)
    return market


def example():
    """The market of the document's example."""
    market = market_of(("a", "b"))
    market.add_treaty("a", ("layer", 100, 300), TO_B)
    market.add_treaty("b", ("layer", 50, 200), (("a", 1), (None, 1)))
    market.set_loss("storm", "a", 160)
    return market


def web():
    """A market in which all cover one another, one treaty ended."""
    market = market_of(("c", "a", "b"), ("storm", "flood", "quake"))
    market.add_treaty("c", ("share", 300), (("a", 2), ("b", 1), (None, 1)))
    market.add_treaty("a", ("layer", 20, 50), (("b", 1), ("c", 2)))
    market.add_treaty("c", ("layer", 40, 30), (("b", 3), ("a", 1)))
    market.add_treaty("b", ("share", 250), ((None, 2), ("c", 5)))
    market.add_treaty("a", ("share", 600), OUT)
    market.add_treaty("b", ("layer", 5, 60), (("a", 7), ("c", 2)))
    market.terminate(4)
    market.set_loss("storm", "c", 97)
    market.set_loss("flood", "a", 61)
    market.set_loss("flood", "b", 33)
    market.set_loss("quake", "b", 88)
    return market


def ring(limit, amount=0, insurer="a"):
    """A market of a, whose layer from 0 up to a limit b assumes, and b, of which a assumes all.

    A loss of 1 of a goes round until the layer is full, which takes 2 * limit rounds.
    """
    market = market_of(("a", "b"))
    market.add_treaty("a", ("layer", 0, limit), TO_B)
    market.add_treaty("b", FULL, TO_A)
    market.set_loss("storm", insurer, amount)
    return market


def random_cover(source):
    """A cover, rather a small one."""
    if source.random() < 0.5:
        return ("share", source.choice((1, 250, 333, 500, 750, 999, 1000)))
    return ("layer", source.choice((0, 1, 5, 20, 50)), source.choice((1, 10, 40, 100)))


def random_panel(source, names):
    """A panel of some of these names and, sometimes, external participants."""
    others = list(names) + [None] * (source.random() < 0.4)
    source.shuffle(others)
    return tuple((name, source.randint(1, 5)) for name in others[:source.randint(1, min(3, len(others)))])


def change_market(source, market):
    """Some change of a market, if it takes it."""
    try:
        kind = source.random()
        if kind < 0.6:
            cedent = source.choice(market.insurers)
            names = [name for name in market.insurers if name != cedent]
            if len(market.treaties) < market.MOST_TREATIES:
                market.add_treaty(cedent, random_cover(source), random_panel(source, names))
        elif kind < 0.65:
            running = [number for number, row in enumerate(market.treaties) if not row[3]]
            if running:
                market.terminate(source.choice(running))
        else:
            market.set_loss(source.choice(market.events), source.choice(market.insurers), source.randint(0, 90))
    except NoEnd:
        pass


def random_market(seed, insurers=4, events=2, changes=16):
    """A market that depends on the seed alone."""
    source = Random(seed)
    market = market_of("dbcaef"[:source.randint(2, insurers)], ("storm", "flood", "quake")[:source.randint(1, events)])
    for _ in range(changes):
        change_market(source, market)
    return market


def state(market):
    """The attributes of a market, which no later change of the market reaches."""
    return market.insurers, market.events, market.treaties, dict(market.losses)


def caught(test, error, action, *values):
    """The error, of exactly this class, that an action raises."""
    with test.assertRaises(error) as context:
        action(*values)
    test.assertIs(type(context.exception), error)
    return context.exception


def refused(test, market, error, action, *values):
    """The error that a change of a market raises, which must leave the market as it was."""
    before = state(market)
    kept = market.insurers, market.events, market.treaties, market.losses
    found = caught(test, error, action, *values)
    test.assertEqual(state(market), before)
    for old, new in zip(kept, (market.insurers, market.events, market.treaties, market.losses)):
        test.assertIs(new, old)
    return found


def seen(post):
    """All that a post and its market tell."""
    market = post.market
    return (state(market), len(post), list(post), [post.notice(number) for number in post], post.pending(),
            post.is_quiet(),
            [post.last_sent(number, event) for number in range(len(market.treaties)) for event in market.events],
            [post.estimated_positions(event) for event in market.events],
            [(post.estimated(event, name), post.cash(event, name))
             for event in market.events for name in market.insurers])


def unchanged(test, post, error, action, *values):
    """The error that an action raises, which must leave a post and its market as they were."""
    before = seen(post)
    found = caught(test, error, action, *values)
    test.assertEqual(seen(post), before)
    return found


def drive(post):
    """Sends, resends and delivers until a post is quiet."""
    while not post.is_quiet():
        insurers, numbers = post.pending()
        for number in numbers:
            post.deliver(number)
        for name in insurers:
            post.send(name)
        if not insurers and not numbers:
            for name in post.market.insurers:
                post.resend(name)


def plain_parts(amount, panel):
    """The parts of a panel, by the words of point 4: whole cycles, then single units."""
    cycle = [index for index, (_, shares) in enumerate(panel) for _ in range(shares)]
    parts = [shares * (amount // len(cycle)) for _, shares in panel]
    for index in cycle[:amount % len(cycle)]:
        parts[index] += 1
    return parts


def plain_paid(market, cedent, loss):
    """What each treaty of the market pays when the cedent has this loss, and the net loss."""
    paid = {}
    rest = loss
    for number, (owner, cover, _, ended) in enumerate(market.treaties):
        paid[number] = 0
        if owner == cedent and not ended:
            if cover[0] == "share":
                paid[number] = cover[1] * rest // 1000
            elif rest > cover[1]:
                paid[number] = min(rest - cover[1], cover[2])
        rest -= paid[number]
    return paid, rest


def plain_round(market, event, gross):
    """The next round, by the words of point 9."""
    losses = {name: market.losses.get((event, name), 0) for name in market.insurers}
    for cedent, loss in zip(market.insurers, gross):
        paid, _ = plain_paid(market, cedent, loss)
        for number, (_, _, panel, _) in enumerate(market.treaties):
            for (name, _), part in zip(panel, plain_parts(paid[number], panel)):
                if name is not None:
                    losses[name] += part
    return tuple(losses[name] for name in market.insurers)


def plain_rows(market, event):
    """The rounds 0 to 200 of an event, each worked out from the one ahead."""
    rows = [tuple(market.losses.get((event, name), 0) for name in market.insurers)]
    while len(rows) < 201 and rows[-2:-1] != rows[-1:]:
        rows.append(plain_round(market, event, rows[-1]))
    return rows + rows[-1:] * (201 - len(rows))


def plain_way(market, event, insurer):
    """The way of one unit more, by the words of point 13."""
    gross = dict(zip(market.insurers, plain_rows(market, event)[-1]))
    way, holder = [], insurer
    while True:
        loss = gross[holder] + sum(1 for name, _ in way if name == holder)
        ahead, behind = plain_paid(market, holder, loss)[0], plain_paid(market, holder, loss + 1)[0]
        growing = [number for number in ahead if behind[number] > ahead[number]]
        if not growing:
            return tuple(way), ("insurer", holder)
        number, = growing
        way.append((holder, number))
        panel = market.treaties[number][2]
        cycle = [name for name, shares in panel for _ in range(shares)]
        holder = cycle[ahead[number] % len(cycle)]
        if holder is None:
            return tuple(way), ("external", number)


def plain_schedule(amounts):
    """The schedule of a row of amounts, by the words of point 14."""
    return tuple((number, amount) for number, amount in enumerate(amounts)
                 if amount != (amounts[number - 1] if number > 0 else 0))


class PlainPost:
    """The post by the words of points 15 to 23: rows of 201 amounts, and nothing is worked out but when asked for."""

    def __init__(self, market):
        self.market = market
        self.notices = []
        self.dropped = set()
        self.sent = {}
        self.received = {}
        self.paid = {}

    def own(self, insurer):
        return [number for number, row in enumerate(self.market.treaties) if row[0] == insurer]

    def estimate(self, event, insurer):
        rows = [self.market.losses.get((event, insurer), 0)] + [0] * 200
        rows[1:] = [rows[0]] * 200
        for number, (_, _, panel, _) in enumerate(self.market.treaties):
            _, told = self.received.get((insurer, number, event), (0, None))
            places = [index for index, (name, _) in enumerate(panel) if name == insurer]
            if told and places:
                for at in range(1, 201):
                    rows[at] += plain_parts(told[at - 1], panel)[places[0]]
        return [rows[0]] + [min(loss, 10 ** 9) for loss in rows[1:]]

    def changes(self, insurer):
        found = []
        for number in self.own(insurer):
            for event in self.market.events:
                now = [plain_paid(self.market, insurer, loss)[0][number] for loss in self.estimate(event, insurer)]
                if now != self.sent.get((number, event), (0, [0] * 201))[1]:
                    found.append((number, event, now))
        return found

    def publish(self, keys):
        ahead = len(self.notices)
        for number, event in keys:
            for name, _ in self.market.treaties[number][2]:
                if name is not None:
                    self.notices.append((name, number, event) + self.sent[(number, event)])
        return tuple(range(ahead + 1, len(self.notices) + 1))

    def send(self, insurer):
        changes = self.changes(insurer)
        for number, event, now in changes:
            self.sent[(number, event)] = (self.sent.get((number, event), (0, None))[0] + 1, now)
        return self.publish([(number, event) for number, event, _ in changes])

    def resend(self, insurer):
        return self.publish([(number, event) for number in self.own(insurer) for event in self.market.events
                             if (number, event) in self.sent])

    def deliver(self, number):
        name, treaty, event, sequence, now = self.notices[number - 1]
        if sequence > self.received.get((name, treaty, event), (0, None))[0]:
            self.received[(name, treaty, event)] = (sequence, now)
            return True
        return False

    def drop(self, number):
        self.dropped.add(number)

    def numbers(self):
        return [number for number in range(1, len(self.notices) + 1) if number not in self.dropped]

    def pending(self):
        worth = []
        for number in self.numbers():
            name, treaty, event, sequence, _ = self.notices[number - 1]
            if self.sent[(treaty, event)][0] == sequence > self.received.get((name, treaty, event), (0, None))[0]:
                worth.append(number)
        return tuple(name for name in self.market.insurers if self.changes(name)), tuple(worth)

    def is_quiet(self):
        for (number, event), (sequence, _) in self.sent.items():
            for name, _ in self.market.treaties[number][2]:
                if name is not None and self.received.get((name, number, event), (0, None))[0] != sequence:
                    return False
        return not any(self.changes(name) for name in self.market.insurers)

    def settle(self, event):
        payments = []
        for number, (cedent, _, panel, _) in enumerate(self.market.treaties):
            for index, (name, _) in enumerate(panel):
                told = self.sent.get((number, event)) if name is None else self.received.get((name, number, event))
                due = plain_parts(told[1][200], panel)[index] if told else 0
                more = due - sum(self.paid.setdefault((event, number, index), []))
                self.paid[(event, number, index)].append(more)
                if more != 0:
                    payments.append((name, cedent, more) if more > 0 else (cedent, name, -more))
        return payments

    def seen(self):
        """What a real post would tell, in the form of the function of this name."""
        market = self.market
        return (state(market), len(self.notices), self.numbers(),
                [self.notices[number - 1][:4] + (plain_schedule(self.notices[number - 1][4]),)
                 for number in self.numbers()],
                self.pending(), self.is_quiet(),
                [(sequence, plain_schedule(now)) for sequence, now in
                 [self.sent.get((number, event), (0, []))
                  for number in range(len(market.treaties)) for event in market.events]],
                [self.positions(event) for event in market.events],
                [(plain_schedule(self.estimate(event, name)), self.cash(event, name))
                 for event in market.events for name in market.insurers])

    def positions(self, event):
        rows = []
        for name in self.market.insurers:
            direct, loss = self.market.losses.get((event, name), 0), self.estimate(event, name)[200]
            paid, net = plain_paid(self.market, name, loss)
            rows.append((name, direct, loss - direct, sum(paid.values()), net))
        return tuple(rows)

    def cash(self, event, insurer):
        total = 0
        for (told, number, index), amounts in self.paid.items():
            cedent, _, panel, _ = self.market.treaties[number]
            if told == event:
                total += sum(amounts) * ((cedent == insurer) - (panel[index][0] == insurer))
        return total
