"""What a deed asks for, ahead of being done: days that may be told, and what it names."""

from docketloom.charter import HELD
from docketloom.errors import NotThere, OutOfRange


def check_days(registry, deed):
    """Raises OutOfRange if a day of the deed may not be told today."""
    word = deed[0]
    day = deed[2] if word == "amend" else deed[1]
    if word in HELD + ("amend",) and day > registry.day_now:
        raise OutOfRange("later than today")
    if word == "pass" and day <= registry.day_now:
        raise OutOfRange("not later than today")
    if word in ("hearing", "unlist") and day < registry.day_now:
        raise OutOfRange("before today")


def check_named(registry, deed):
    """Raises NotThere if something that the deed names is not there.

    What the entries of the docket name is looked at when they are entered, and the heads of moves when these are made.
    """
    word = deed[0]
    if word == "event":
        cause = registry.filing(deed[1], registry.day_now)[3][1]
        check_parties(registry.record(cause, registry.day_now), (deed[2],))
    elif word == "heads":
        check_parties(registry.record(deed[1], registry.day_now), deed[3])
    elif word == "expense":
        record = registry.record_with_heads(deed[1], registry.day_now)
        check_parties(record, (deed[2],))
        check_heads(record, deed[4])
    elif word in ("hearing", "unlist"):
        registry.record(deed[2], registry.day_now)
        if word == "unlist" and not registry.lists.has(deed[1], registry.day_now, deed[2]):
            raise NotThere("not on the list")


def check_parties(record, parties):
    """Raises NotThere if one of the parties is none of those in the begin of the cause."""
    if not all([party in record.parties for party in parties]):
        raise NotThere("no such party")


def check_heads(record, heads):
    """Raises NotThere if the cause has not got one of the heads."""
    names = record.head_names()
    if not all([head in names for head in heads]):
        raise NotThere("no such head")
