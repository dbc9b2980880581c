"""Markets: insurers, events, treaties and direct losses (points 7 to 10)."""

from spiraldue.checks import check_known, check_name, check_panel, check_treaty, is_between
from spiraldue.covers import check_cover
from spiraldue.errors import BadAmount, NameTaken, OwnPanel, TooMany, TreatyEnded, Twice
from spiraldue.flows import rounds_to_end

MOST_DIRECT = 100000


def check_new_name(name, names, most):
    """Raises an error if a name can not be added to some names, of which there are at most so many."""
    check_name(name)
    if len(names) >= most:
        raise TooMany("there are as many names as there may be")
    if name in names:
        raise NameTaken(name)


def check_placed(cedent, panel, insurers):
    """Raises an error if a treaty of this cedent can not be placed with a panel."""
    check_known(cedent, insurers)
    participants = [participant for participant, _ in panel]
    for participant in participants:
        if participant is not None:
            check_known(participant, insurers)
    if len(set(participants)) < len(participants):
        raise Twice("a participant stands twice in the panel")
    if cedent in participants:
        raise OwnPanel("the cedent stands in the panel")


def direct_losses(insurers, losses, event):
    """The tuple of the direct losses of an event, 0 where none was set."""
    return tuple([losses.get((event, insurer), 0) for insurer in insurers])


class Market:
    """Insurers that cover one another by treaties, events and direct losses."""

    MOST_INSURERS = 6
    MOST_EVENTS = 3
    MOST_TREATIES = 16

    def __init__(self):
        self.insurers = ()
        self.events = ()
        self.treaties = ()
        self.losses = {}

    def add_insurer(self, name):
        """Adds an insurer and tells how many there are then."""
        check_new_name(name, self.insurers, self.MOST_INSURERS)
        self.insurers = self.insurers + (name,)
        return len(self.insurers)

    def add_event(self, name):
        """Adds an event and tells how many there are then."""
        check_new_name(name, self.events, self.MOST_EVENTS)
        self.events = self.events + (name,)
        return len(self.events)

    def add_treaty(self, cedent, cover, panel):
        """Adds a treaty and tells its number."""
        check_name(cedent)
        check_cover(cover)
        check_panel(panel)
        check_placed(cedent, panel, self.insurers)
        number = len(self.treaties)
        if number >= self.MOST_TREATIES:
            raise TooMany("there are as many treaties as there may be")
        treaties = self.treaties + ((cedent, cover, panel, False),)
        self._check_ends(treaties, self.losses)
        self.treaties = treaties
        return number

    def terminate(self, number):
        """Ends a treaty: from then on it pays 0."""
        check_treaty(number, self.treaties)
        cedent, cover, panel, ended = self.treaties[number]
        if ended:
            raise TreatyEnded(number)
        row = (cedent, cover, panel, True)
        treaties = self.treaties[:number] + (row,) + self.treaties[number + 1:]
        self._check_ends(treaties, self.losses)
        self.treaties = treaties

    def set_loss(self, event, insurer, amount):
        """Sets the direct loss of an insurer for an event."""
        check_name(event)
        check_name(insurer)
        if not is_between(amount, 0, MOST_DIRECT):
            raise BadAmount("a direct loss is an integer from 0 to 100000")
        check_known(event, self.events)
        check_known(insurer, self.insurers)
        losses = {key: self.losses[key] for key in self.losses}
        losses[(event, insurer)] = amount
        self._check_ends(self.treaties, losses)
        self.losses = losses

    def direct(self, event):
        """The tuple of the direct losses of all insurers for an event."""
        check_known(event, self.events)
        return direct_losses(self.insurers, self.losses, event)

    def copy(self):
        """A market of its own with the same insurers, events, treaties and losses."""
        other = Market()
        other.insurers = self.insurers
        other.events = self.events
        other.treaties = self.treaties
        other.losses = {key: self.losses[key] for key in self.losses}
        return other

    def _check_ends(self, treaties, losses):
        """Raises NoEnd if the rounds of some event would not come to an end with these."""
        for event in self.events:
            rounds_to_end(self.insurers, treaties, direct_losses(self.insurers, losses, event))
