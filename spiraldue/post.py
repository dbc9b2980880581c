"""The post: notices among insurers, runs, settling and trials (points 15 to 24)."""

from spiraldue.checks import check_known, check_names, check_treaty, is_between
from spiraldue.errors import NoSuchNotice, TooMany
from spiraldue.estimates import NOTHING, current_schedules, estimated_schedule, own_treaties
from spiraldue.flows import LAST_ROUND, part_of
from spiraldue.schedules import amount_at
from spiraldue.spiral import positions_at

MOST_NOTICES = 2000


def copied(table):
    """A new dict with the same keys and values."""
    return {key: table[key] for key in table}


def participants(panel):
    """The insurers in a panel, in order."""
    return [participant for participant, _ in panel if participant is not None]


class Trial:
    """Keeps a post and its market as they are, and brings them back to it when a with statement ends."""

    def __init__(self, post):
        market = post.market
        self.market = market
        self.insurers = market.insurers
        self.events = market.events
        self.treaties = market.treaties
        self.losses = market.losses
        self.post = post
        post.is_kept = True
        self.notices = post.notices
        self.numbers = post.numbers
        self.last = post.last
        self.received = post.received
        self.paid = post.paid

    def __enter__(self):
        return self.post

    def __exit__(self, kind, value, trace):
        post = self.post
        post.is_kept = True
        post.notices = self.notices
        post.numbers = self.numbers
        post.last = self.last
        post.received = self.received
        post.paid = self.paid
        self.market.insurers = self.insurers
        self.market.events = self.events
        self.market.treaties = self.treaties
        self.market.losses = self.losses


class Post:
    """Notices among the insurers of a market, what they have received of them, and what they have paid."""

    def __init__(self, market):
        self.market = market
        # All notices in the order of their numbers, None for a dropped one. To copy this list for each new notice
        # would take too long, so it is changed itself, and copied only if a trial keeps it.
        self.notices = []
        self.is_kept = False
        # Each of these is replaced as a whole by a change, never changed itself, so that a trial can keep it.
        self.numbers = ()
        self.last = {}
        self.received = {}
        self.paid = {}

    def __len__(self):
        return len(self.notices)

    def __iter__(self):
        return iter(self.numbers)

    def send(self, insurer):
        """Sends all changes of an insurer and tells the numbers of the new notices."""
        check_known(insurer, self.market.insurers)
        changes = self._changes(insurer)
        last = copied(self.last)
        for number, event, schedule in changes:
            last[(number, event)] = (self._last_sequence(number, event) + 1, schedule)
        numbers = self._enter([(number, event) for number, event, _ in changes], last)
        self.last = last
        return numbers

    def resend(self, insurer):
        """Sends once more what an insurer sent last and tells the numbers of the new notices."""
        check_known(insurer, self.market.insurers)
        keys = [(number, event) for number in own_treaties(self.market, insurer) for event in self.market.events
                if (number, event) in self.last]
        return self._enter(keys, self.last)

    def deliver(self, number):
        """Delivers a notice and tells whether it was newer than the last one received."""
        recipient, treaty, event, sequence, schedule = self.notice(number)
        if sequence <= self._received_sequence(recipient, treaty, event):
            return False
        received = copied(self.received)
        received[(recipient, treaty, event)] = (sequence, schedule)
        self.received = received
        return True

    def drop(self, number):
        """Loses a notice; what was received stays."""
        self.notice(number)
        index = self.numbers.index(number)
        self.numbers = self.numbers[:index] + self.numbers[index + 1:]
        self._take_notices()
        self.notices[number - 1] = None

    def notice(self, number):
        """The tuple (recipient, treaty, event, sequence, schedule) of a notice."""
        if not is_between(number, 1, len(self.notices)) or self.notices[number - 1] is None:
            raise NoSuchNotice(number)
        return self.notices[number - 1]

    def estimated(self, event, insurer):
        """The schedule of the estimated gross losses of an insurer for an event."""
        check_names(self.market, event, insurer)
        return estimated_schedule(self.market, self.received, event, insurer)

    def last_sent(self, number, event):
        """The pair (sequence, schedule) that was sent last for a treaty and an event, (0, ()) if none was."""
        check_known(event, self.market.events)
        check_treaty(number, self.market.treaties)
        return self.last.get((number, event), NOTHING)

    def estimated_positions(self, event):
        """The tuple of the positions that follow from the estimates at round 200."""
        check_known(event, self.market.events)
        gross = [amount_at(self.estimated(event, insurer), LAST_ROUND) for insurer in self.market.insurers]
        return positions_at(self.market, event, gross)

    def pending(self):
        """A pair of the insurers with a change to report, and the numbers of the notices worth delivering."""
        insurers = [insurer for insurer in self.market.insurers if len(self._changes(insurer)) > 0]
        numbers = [number for number in self.numbers if self._is_worth(number)]
        return tuple(insurers), tuple(numbers)

    def is_quiet(self):
        """Whether nothing more is to be told."""
        # The notices are looked at first, because to find changes takes much longer.
        if not all([self._is_told(number) for number in range(len(self.market.treaties))]):
            return False
        for insurer in self.market.insurers:
            if len(self._changes(insurer)) > 0:
                return False
        return True

    def run(self, actions):
        """Performs actions as long as the post is not quiet, and tells how many were performed."""
        performed = 0
        for action in actions:
            if self.is_quiet():
                return performed
            if isinstance(action, str):
                self.send(action)
            else:
                self.deliver(action)
            performed += 1
        return performed

    def settle(self, event):
        """Settles an event and tells the list of the payments (payer, payee, amount)."""
        check_known(event, self.market.events)
        paid = copied(self.paid)
        payments = []
        for number, (cedent, _, panel, _) in enumerate(self.market.treaties):
            for participant, _ in panel:
                due = self._due(number, event, participant)
                ahead = paid.get((event, number, participant), 0)
                if due > ahead:
                    payments.append((participant, cedent, due - ahead))
                if due < ahead:
                    payments.append((cedent, participant, ahead - due))
                paid[(event, number, participant)] = due
        self.paid = paid
        return payments

    def cash(self, event, insurer):
        """What an insurer has received by settlements of an event, less what it has paid."""
        check_names(self.market, event, insurer)
        total = 0
        for number, (cedent, _, panel, _) in enumerate(self.market.treaties):
            for participant, _ in panel:
                amount = self.paid.get((event, number, participant), 0)
                if cedent == insurer:
                    total += amount
                if participant == insurer:
                    total -= amount
        return total

    def tried(self):
        """A trial for a with statement, behind which post and market are as they are now."""
        return Trial(self)

    def foresee(self, actions):
        """How many actions a run would perform; changes nothing."""
        with Trial(self):
            return self.run(actions)

    def _last_sequence(self, number, event):
        """The sequence number of the schedule sent last for a treaty and an event, 0 if none was."""
        return self.last.get((number, event), NOTHING)[0]

    def _received_sequence(self, recipient, number, event):
        """The sequence number of the last notice received for a treaty and an event, 0 if there is none."""
        return self.received.get((recipient, number, event), NOTHING)[0]

    def _changes(self, insurer):
        """The triples (treaty, event, current schedule) of all changes that an insurer has to report, in order."""
        market = self.market
        current = {event: current_schedules(market, self.received, event, insurer) for event in market.events}
        return [(number, event, current[event][number])
                for number in own_treaties(market, insurer) for event in market.events
                if current[event][number] != self.last.get((number, event), NOTHING)[1]]

    def _enter(self, keys, last):
        """Enters notices of what was sent last for pairs (treaty, event), and tells their numbers."""
        rows = [(recipient, number, event) + last[(number, event)]
                for number, event in keys for recipient in participants(self.market.treaties[number][2])]
        ahead = len(self.notices)
        if ahead + len(rows) > MOST_NOTICES:
            raise TooMany("there would be more than 2000 notices")
        numbers = tuple(range(ahead + 1, ahead + len(rows) + 1))
        self._take_notices()
        self.notices.extend(rows)
        self.numbers = self.numbers + numbers
        return numbers

    def _take_notices(self):
        """Makes the list of the notices one that no trial keeps."""
        if self.is_kept:
            self.notices = list(self.notices)
            self.is_kept = False

    def _is_worth(self, number):
        """Whether a notice that was not dropped is worth delivering."""
        recipient, treaty, event, sequence, _ = self.notices[number - 1]
        return (sequence == self._last_sequence(treaty, event)
                and sequence > self._received_sequence(recipient, treaty, event))

    def _is_told(self, number):
        """Whether all participants of a treaty have received what was sent last for it, for each event."""
        insurers = participants(self.market.treaties[number][2])
        return all([self._received_sequence(insurer, number, event) == self._last_sequence(number, event)
                    for event in self.market.events for insurer in insurers])

    def _due(self, number, event, participant):
        """The amount due from a participation for an event."""
        panel = self.market.treaties[number][2]
        _, schedule = self.last.get((number, event), NOTHING)
        if participant is not None:
            _, schedule = self.received.get((participant, number, event), NOTHING)
        return part_of(panel, participant, amount_at(schedule, LAST_ROUND))
