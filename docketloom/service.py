"""Service of papers: manners, powers, chains, agents, events, and the days on which papers are served."""

from docketloom.days import END, check_day, is_day, weekday_of
from docketloom.errors import NotThere, OutOfRange
from docketloom.names import is_name, is_number, is_one_of, is_tuple
from docketloom.openings import Openings

MOST_POWERS = 20
MOST_EVENTS = 60
DEEDS = ("back", "door", "hand", "post", "try")


def is_manner(value):
    """True if the value, of any kind, is a manner."""
    if not is_tuple(value, 5, 5):
        return False
    post, door, tries, window, longest = value
    if not is_number(post, 1, 60) or not is_number(door, 0, 60) or not is_number(tries, 0, 4):
        return False
    return is_number(window, 1, 60) and is_number(longest, 0, 4)


def is_powers(value):
    """True if the value, of any kind, is powers."""
    return is_tuple(value, 0, MOST_POWERS) and all([is_power(item) for item in value])


def is_power(value):
    """True if the value, of any kind, is a power."""
    if not is_tuple(value, 5, 5):
        return False
    giver, taker, first, behind, further = value
    if not is_name(giver) or not is_name(taker) or giver == taker or not is_day(first):
        return False
    return (behind is None or (is_day(behind) and first < behind)) and type(further) is bool


def is_events(value):
    """True if the value, of any kind, is events."""
    if not is_tuple(value, 0, MOST_EVENTS) or not all([is_event(item) for item in value]):
        return False
    return all([value[at - 1][0] <= value[at][0] for at in range(1, len(value))])


def is_event(value):
    """True if the value, of any kind, is an event."""
    return is_tuple(value, 3, 3) and is_day(value[0]) and is_one_of(value[1], DEEDS) and is_name(value[2])


def is_in_force(power, day):
    """True if the power is in force on the day."""
    _, _, first, behind, _ = power
    return first <= day and (behind is None or day < behind)


def is_chain(powers, party, taker, day, longest, chain):
    """True if the value chain, of any kind, is a chain from the party to the taker on the day."""
    check_day(day)
    return is_chain_of(powers, party, taker, day, longest, chain)


def is_chain_of(powers, party, taker, day, longest, chain):
    """True if the value chain, of any kind, is a chain; the day is one."""
    if not is_tuple(chain, 0, longest) or not all([is_number(number, 0, len(powers) - 1) for number in chain]):
        return False
    held = [party]
    for at, number in enumerate(chain):
        giver, other, _, _, further = powers[number]
        if giver != held[-1] or other in held or not is_in_force(powers[number], day):
            return False
        if at < len(chain) - 1 and not further:
            return False
        held.append(other)
    return held[-1] == taker


def least_chain(powers, party, taker, day, longest):
    """The least chain from the party to the taker on the day, or None."""
    check_day(day)
    return least_behind(powers, [party], taker, day, longest)


def least_behind(powers, held, taker, day, longest):
    """The least chain that goes on from those who hold the powers of a chain; or None."""
    if held[-1] == taker:
        return ()
    if longest == 0:
        return None
    for number, power in enumerate(powers):
        giver, other, _, _, further = power
        if giver == held[-1] and other not in held and is_in_force(power, day) and (further or other == taker):
            chain = least_behind(powers, held + [other], taker, day, longest - 1)
            if chain is not None:
                return (number,) + chain
    return None


def agents(powers, party, day, longest):
    """The ascending list of the agents of the party on the day."""
    check_day(day)
    return sorted(agents_on(powers, party, day, longest))


def agents_on(powers, party, day, longest):
    """The agents of the party on a day, as a dict of True."""
    found = {party: True}
    handing_on = {party: True}
    for _ in range(longest):
        given = [power for power in powers if power[0] in handing_on and is_in_force(power, day)]
        for _, taker, _, _, further in given:
            found[taker] = True
            if further:
                handing_on[taker] = True
    return found


def back_between(events, whom, first, last):
    """True if a paper came back from somebody on one of these days."""
    return any([deed == "back" and other == whom and first <= day <= last for day, deed, other in events])


class Serving:
    """The service of papers in a calendar, by a manner and powers. What was worked out is kept."""

    def __init__(self, calendar, manner, powers):
        self._openings = Openings(calendar)
        self._post, self._door, self.many_tries, self._window, self.longest = manner
        self.powers = powers
        self._agents = {}

    def has_agent(self, party, whom, day):
        """True if somebody is an agent of the party on the day."""
        key = (party, day)
        if key not in self._agents:
            self._agents[key] = agents_on(self.powers, party, day, self.longest)
        return whom in self._agents[key]

    def _open_behind(self, day, many):
        """The open day with this number behind a day; None if it would be behind the last one."""
        if many == 0:
            return self._openings.find("open", day, END, 1)
        return self._openings.find("open", day + 1, END, many) if day + 1 < END else None

    def good_tries(self, party, events, day):
        """The numbers of the good tries ahead of an event on the day."""
        return [number for number, (tried, deed, whom) in enumerate(events)
                if deed == "try" and whom == party and day - self._window <= tried < day]

    def counts_on(self, party, events, number):
        """The day on which the event counts, or None."""
        day, deed, whom = events[number]
        if deed in ("hand", "post"):
            if not self.has_agent(party, whom, day):
                return None
            if deed == "hand":
                return self._open_behind(day, 0)
            counted = self._open_behind(day, self._post)
            return None if counted is None or back_between(events, whom, day, counted) else counted
        if deed != "door" or whom != party:
            return None
        weekdays = {weekday_of(events[at][0]): True for at in self.good_tries(party, events, day)}
        return self._open_behind(day, self._door) if len(weekdays) >= self.many_tries else None

    def served_on(self, party, events):
        """The day on which the paper is served, or None."""
        days = [self.counts_on(party, events, number) for number in range(len(events))]
        return min([day for day in days if day is not None], default=None)

    def known_on(self, party, events, known):
        """The day on which the paper is served as known on a day, or None."""
        served = self.served_on(party, tuple([event for event in events if event[0] <= known]))
        return served if served is not None and served <= known else None


def counts_on(calendar, manner, powers, party, events, number):
    """The day on which the event with the number counts, or None."""
    if not is_number(number, 0, len(events) - 1):
        raise NotThere("no event with this number")
    return Serving(calendar, manner, powers).counts_on(party, events, number)


def served_on(calendar, manner, powers, party, events):
    """The day on which the paper is served, or None."""
    return Serving(calendar, manner, powers).served_on(party, events)


def known_on(calendar, manner, powers, party, events, day):
    """The day on which the paper is served as known on the day, or None."""
    check_day(day)
    return Serving(calendar, manner, powers).known_on(party, events, day)


def all_served(calendar, manner, powers, parties, events):
    """The day on which all parties of the list are served, or None."""
    if len(parties) == 0:
        raise OutOfRange("nobody is to be served")
    serving = Serving(calendar, manner, powers)
    days = [serving.served_on(party, events) for party in parties]
    return None if None in days else max(days)


def unserved(calendar, manner, powers, parties, events, day):
    """The list of those of the parties that are not served as known on the day."""
    check_day(day)
    serving = Serving(calendar, manner, powers)
    return [party for party in parties if serving.known_on(party, events, day) is None]
