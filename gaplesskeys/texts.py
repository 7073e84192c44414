"""Contents, plans and fleets as texts."""

from gaplesskeys.checks import is_between, is_word, is_written_integer
from gaplesskeys.contents import Contents
from gaplesskeys.errors import GapError, ParseError, UnknownName
from gaplesskeys.fleets import LONGEST, MOST_CALLS, MOST_KINDS, Fleet, Kind
from gaplesskeys.plans import Plan


def key_text(keys):
    """Keys in alphabetical order as a word."""
    return ",".join(keys) if keys else "-"


def _text_or_none(value):
    """A name or an integer as a word, where None has a sign of its own."""
    return "-" if value is None else str(value)


def format_contents(contents):
    """The line that describes contents."""
    uses = []
    for role in contents.roles:
        uses.append(f"{role} {key_text(contents.accepted(role))} {contents.used(role)}")
    roles = " / ".join(uses)
    return f"{roles} | {key_text(contents.vouchers)} {contents.needed} {key_text(contents.signers)}"


def format_plan(plan):
    """The text that describes a plan."""
    lines = []
    for number in range(len(plan)):
        lines.append(f"{plan.moment_of(number)} {format_contents(plan.contents_of(number))}")
    return "\n".join(lines)


def format_fleet(fleet):
    """The text that describes a fleet."""
    lines = []
    for name in fleet.names():
        kind = fleet[name]
        lines.append(f"kind {name} gap {kind.gap} age {_text_or_none(kind.age)} from {_text_or_none(kind.source)}")
    for role, client, server, life in fleet.calls():
        lines.append(f"call {role} {client} {server} life {life}")
    return "\n".join(lines)


# What these return for a wrong word is refused by all that takes it.
def _told_keys(word):
    """The keys that a word tells."""
    return [] if word == "-" else word.split(",")


def _told_integer(word):
    """The integer that a word tells, or else the word itself."""
    return int(word) if is_written_integer(word) else word


def _told_roles(text):
    """The roles that the first part of the text of contents tells, or else None."""
    roles = {}
    for part in text.split(" / "):
        words = part.split(" ")
        if len(words) != 3:
            return None
        roles[words[0]] = (_told_keys(words[1]), words[2])
    return roles


def parse_contents(text):
    """The contents that a line describes."""
    if not isinstance(text, str):
        raise ParseError(0)
    roles, _, rest = text.partition(" | ")
    words = rest.split(" ")
    if len(words) != 3:
        raise ParseError(0)
    vouchers, needed, signers = words
    try:
        found = Contents(
            _told_roles(roles),
            _told_keys(vouchers),
            needed=_told_integer(needed),
            signers=_told_keys(signers),
        )
    except GapError:
        raise ParseError(0) from None
    # Words in another order, or a role that is told twice, are not written so.
    if format_contents(found) != text:
        raise ParseError(0)
    return found


def parse_plan(text):
    """The plan that a text describes."""
    if not isinstance(text, str):
        raise ParseError(None)
    editions = []
    for number, line in enumerate(text.split("\n")):
        moment, _, rest = line.partition(" ")
        try:
            editions.append((_told_integer(moment), parse_contents(rest)))
            # Only the last one can be wrong here, or one too many.
            Plan(editions)
        except GapError:
            raise ParseError(number) from None
    return Plan(editions)


def _note_kind(kinds, words):
    """Notes the kind that the words of a line tell, and returns whether they are right."""
    if len(words) != 8 or [words[0], words[2], words[4], words[6]] != ["kind", "gap", "age", "from"]:
        return False
    name = words[1]
    if not is_word(name) or len(kinds) == MOST_KINDS:
        return False
    if kinds and name <= kinds[-1][0]:
        return False
    age = None if words[5] == "-" else _told_integer(words[5])
    source = None if words[7] == "-" else words[7]
    try:
        kinds.append((name, Kind(gap=_told_integer(words[3]), age=age, source=source)))
    except GapError:
        return False
    return True


def _note_call(calls, words):
    """Notes the call that the words of a line tell, and returns whether they are right."""
    if len(words) != 6 or [words[0], words[4]] != ["call", "life"] or len(calls) == MOST_CALLS:
        return False
    life = _told_integer(words[5])
    if not all([is_word(word) for word in words[1:4]]) or not is_between(life, 0, LONGEST):
        return False
    calls.append((words[1], words[2], words[3], life))
    return True


def _fleet_of(kinds, calls):
    """The fleet of some kinds, in any order, and calls."""
    fleet = Fleet()
    left = kinds
    while left:
        # A fleet has the source of a kind ahead of the kind itself.
        ready = [(name, kind) for name, kind in left if kind.source is None or kind.source in fleet]
        if not ready:
            raise ParseError(-1)
        for name, kind in ready:
            fleet[name] = kind
        left = [(name, kind) for name, kind in left if name not in fleet]
    for role, client, server, life in calls:
        fleet.add_call(role, client, server, life=life)
    return fleet


def parse_fleet(text):
    """The fleet that a text describes."""
    if not isinstance(text, str):
        raise ParseError(None)
    kinds = []
    calls = []
    lines = text.split("\n") if text else []
    for number, line in enumerate(lines):
        words = line.split(" ")
        if words[0] == "call":
            is_right = _note_call(calls, words)
        else:
            # All kinds stand ahead of all calls.
            is_right = not calls and _note_kind(kinds, words)
        if not is_right:
            raise ParseError(number)
    try:
        return _fleet_of(kinds, calls)
    except (GapError, UnknownName):
        raise ParseError(-1) from None
