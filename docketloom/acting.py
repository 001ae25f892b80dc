"""How an office does its deeds, when their days and all that they name are there."""

from docketloom.charter import CORRECTING, HELD, MOVES
from docketloom.errors import Refused, TooMuch
from docketloom.placing import lack
from docketloom.records import Record
from docketloom.slots import MOST_HEARINGS
from docketloom.wheels import deal

MOST_EXPENSES = 60


def act(registry, deed):
    """Does a deed, and returns its answer. What raises an error changes nothing."""
    word = deed[0]
    if word == "pass":
        return go_on(registry, deed[1])
    if word == "begin":
        return begin(registry, deed)
    if word in HELD or word in CORRECTING:
        return enter(registry, deed)
    if word == "event":
        return tell(registry, deed)
    if word == "heads":
        return give_heads(registry, deed)
    if word in MOVES:
        return move(registry, deed)
    if word == "expense":
        return spend(registry, deed)
    if word == "hearing":
        return put_on_list(registry, deed)
    return registry.lists.take_away(deed[1], registry.day_now, deed[2])


def go_on(registry, day):
    """Makes a later day today; on the way, it is entered what the papers ask for that are served."""
    many = registry.court_docket.many()
    on_the_way = [served for _, _, served in registry.papers.served(day) if served > registry.day_now]
    try:
        for other in sorted({served: True for served in on_the_way}):
            registry.settle(other)
    except TooMuch:
        registry.cut(many)
        raise
    registry.day_now = day


def begin(registry, deed):
    """Begins a cause, and deals it to a judge."""
    _, held, cause, parties, worth, barred, draw = deed
    if cause in registry.records:
        raise Refused("a cause with this name was begun")
    judge, cards = deal(registry.wheel, registry.cards, barred, draw)
    number = registry.court_docket.enter(registry.day_now, held, ("begin", cause, parties))
    registry.cards = cards
    registry.records[cause] = Record(registry.day_now, number, parties, worth, judge)
    return number


def enter(registry, deed):
    """Makes an entry, and what the papers that are served ask for by it."""
    many = registry.court_docket.many()
    if deed[0] in CORRECTING:
        if deed[1] in registry.own:
            raise Refused("the office has made this entry by itself")
        number = registry.court_docket.enter(registry.day_now, registry.day_now, deed)
    else:
        number = registry.court_docket.enter(registry.day_now, deed[1], deed[:1] + deed[2:])
    try:
        registry.settle(registry.day_now)
    except TooMuch:
        registry.cut(many)
        raise
    return number


def tell(registry, deed):
    """Notes that something happened to a paper today."""
    _, number, party, word, whom = deed
    many = registry.court_docket.many()
    paper = registry.papers.paper(number, registry.filing(number, registry.day_now)[1], party)
    paper.tell((registry.day_now, word, whom))
    try:
        registry.settle(registry.day_now)
    except TooMuch:
        paper.forget()
        registry.cut(many)
        raise


def give_heads(registry, deed):
    """Gives heads to a cause."""
    record = registry.records[deed[1]]
    if record.since is not None:
        raise Refused("the cause has got heads before")
    record.since = registry.day_now
    record.heads, record.sides, record.allowances = deed[2:]


def move(registry, deed):
    """Makes a move in the matter of a cause, and returns its answer."""
    today = registry.day_now
    course = registry.course_of(deed[1], today)
    answer = None
    if deed[0] == "judge":
        answer = course.judge(today, deed[2], deed[3])
    elif deed[0] == "appeal":
        answer = course.appeal(today, deed[2])
    else:
        course.send(today, deed[2])
    registry.records[deed[1]].made.append(course.made[-1])
    return answer


def spend(registry, deed):
    """Notes an expense."""
    record = registry.records[deed[1]]
    if len(record.spent) >= MOST_EXPENSES:
        raise TooMuch("too many expenses in a cause")
    record.spent.append((registry.day_now, deed[2:]))


def put_on_list(registry, deed):
    """Puts a cause on the list of a day."""
    _, day, cause, length, first, behind = deed
    listed = registry.lists.hearings(day, registry.day_now)
    if registry.lists.has(day, registry.day_now, cause):
        raise Refused("the cause is on this list")
    if len(listed) >= MOST_HEARINGS:
        raise TooMuch("too many hearings on a list")
    hearing = (cause, registry.records[cause].judge_name, length, first, behind)
    if lack(registry.bench, day, listed + [hearing]) is not None:
        raise Refused("the list would have a lack")
    registry.lists.put(day, registry.day_now, hearing)
