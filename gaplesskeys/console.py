"""A console with one fleet and one plan, and commands of one line."""

from gaplesskeys.calls import refusals
from gaplesskeys.checks import is_word, is_written_integer
from gaplesskeys.earliest import earliest
from gaplesskeys.editions import contents_in
from gaplesskeys.errors import InvalidCommand, ParseError
from gaplesskeys.fleets import Fleet, Kind
from gaplesskeys.holding import held_range, lockouts
from gaplesskeys.losses import unready
from gaplesskeys.plans import Plan
from gaplesskeys.texts import format_fleet, format_plan, key_text, parse_contents
from gaplesskeys.undoing import first_stuck

# The words of the commands. Those in capitals stand for others.
_FORMS = {
    "kind": "kind NAME gap NUMBER age AGE from SOURCE",
    "call": "call NAME NAME NAME life NUMBER",
    "drop": "drop",
    "plan": "plan",
    "fleet": "fleet",
    "late": "late NAME",
    "held": "held NAME NUMBER",
    "faults": "faults",
    "undoable": "undoable",
    "ready": "ready SIZE",
    "earliest": "earliest NUMBER",
}
_NEED_A_PLAN = ("drop", "held", "faults", "undoable", "ready", "earliest")


def _is_number(word):
    return is_written_integer(word) and not word.startswith("-")


def _fits(word, sign):
    """Whether a word may stand where a form has a word."""
    if sign == "NAME":
        return is_word(word)
    if sign == "SOURCE":
        return word == "-" or is_word(word)
    if sign == "NUMBER":
        return _is_number(word)
    if sign == "AGE":
        return word == "-" or _is_number(word)
    if sign == "SIZE":
        return word in ("1", "2", "3")
    return word == sign


def _has_form(words):
    """Whether words are a command that has no contents in it."""
    if words[0] not in _FORMS:
        return False
    signs = _FORMS[words[0]].split(" ")
    return len(words) == len(signs) and all([_fits(words[at], signs[at]) for at in range(len(signs))])


def _told_edition(words):
    """The moment and the contents that the words of a command tell, or None."""
    if len(words) < 3 or not _is_number(words[1]):
        return None
    try:
        return int(words[1]), parse_contents(" ".join(words[2:]))
    except ParseError:
        return None


def _in_one_line(text):
    return text.replace("\n", ";")


def _held_text(plan, fleet, words):
    return str(held_range(plan, fleet, words[1], int(words[2])))


def _faults_text(plan, fleet, words):
    told = [f"call {call} {one} {two}" for call, one, two in refusals(plan, fleet)]
    told = told + [f"jump {kind} {early} {late}" for kind, early, late in lockouts(plan, fleet)]
    return ";".join(told) if told else "none"


def _undoable_text(plan, fleet, words):
    number = first_stuck(plan, fleet)
    return "yes" if number is None else str(number)


def _ready_text(plan, fleet, words):
    found = unready(plan, fleet, int(words[1]))
    if found is None:
        return "yes"
    number, lost = found
    return f"{number} {key_text(lost)}"


def _earliest_text(plan, fleet, words):
    moments = earliest(contents_in(plan), fleet, start=int(words[1]))
    return "none" if moments is None else " ".join([str(moment) for moment in moments])


# What the commands return that need a plan and change nothing.
_ANSWERS = {
    "held": _held_text,
    "faults": _faults_text,
    "undoable": _undoable_text,
    "ready": _ready_text,
    "earliest": _earliest_text,
}


class Console:
    """Runs commands that make a fleet and a plan and that ask about them."""

    def __init__(self):
        self._fleet = Fleet()
        self._plan = None

    def run(self, command):
        """Runs a command and returns what it answers."""
        if not isinstance(command, str):
            raise InvalidCommand(command)
        words = command.split(" ")
        if words[0] == "edition":
            return self._add_edition(command, words)
        if not _has_form(words) or self._plan is None and words[0] in _NEED_A_PLAN:
            raise InvalidCommand(command)
        if words[0] in _ANSWERS:
            answer = _ANSWERS[words[0]]
            return answer(self._plan, self._fleet, words)
        return self._run_other(words)

    def _add_edition(self, command, words):
        edition = _told_edition(words)
        if edition is None:
            raise InvalidCommand(command)
        if self._plan is None:
            self._plan = Plan([edition])
        else:
            self._plan.add(edition[0], edition[1])
        return "ok"

    def _run_other(self, words):
        """Runs a command that changes something, or that needs no plan."""
        if words[0] == "plan":
            return "" if self._plan is None else _in_one_line(format_plan(self._plan))
        if words[0] == "fleet":
            return _in_one_line(format_fleet(self._fleet))
        if words[0] == "late":
            return str(self._fleet.lateness(words[1]))
        if words[0] == "kind":
            self._set_kind(words)
        elif words[0] == "call":
            self._fleet.add_call(words[1], words[2], words[3], life=int(words[5]))
        else:
            self._drop()
        return "ok"

    def _set_kind(self, words):
        age = None if words[5] == "-" else int(words[5])
        source = None if words[7] == "-" else words[7]
        self._fleet[words[1]] = Kind(gap=int(words[3]), age=age, source=source)

    def _drop(self):
        if len(self._plan) == 1:
            self._plan = None
        else:
            self._plan.drop()
