"""A journal of editions, which survives a fall while a line is being written."""

from gaplesskeys.checks import is_index, is_moment, is_written_integer
from gaplesskeys.contents import Contents
from gaplesskeys.editions import have_roles
from gaplesskeys.errors import (
    GapError, InvalidContents, InvalidMoment, LimitExceeded, ParseError, Pending, UnknownEdition,
)
from gaplesskeys.plans import MOST_EDITIONS, Plan
from gaplesskeys.texts import format_contents, parse_contents


def _told_moment(word):
    """The moment that a word tells."""
    if not is_written_integer(word):
        raise ParseError(None)
    return int(word)


class Journal:
    """Lines that tell which editions are begun and done."""

    def __init__(self):
        self._lines = []
        # What was begun, as pairs (moment, contents), and the moments of what is done.
        self._begun = []
        self._done = []

    @classmethod
    def recovered(cls, text):
        """The journal of the lines of a text that end with a line feed."""
        if not isinstance(text, str):
            raise ParseError(None)
        book = cls()
        # What follows the last line feed is what a fall left of a line.
        for number, line in enumerate(text.split("\n")[:-1]):
            try:
                book._follow(line)
            except (GapError, UnknownEdition, Pending, LimitExceeded):
                raise ParseError(number) from None
        return book

    @property
    def text(self):
        """The lines, each with a line feed behind it."""
        return "".join([f"{line}\n" for line in self._lines])

    @property
    def pending(self):
        """The number of the edition that is begun and not done, or None."""
        return None if len(self._begun) == len(self._done) else len(self._done)

    def begin(self, moment, contents):
        """Begins the next edition and returns its number."""
        number = len(self._begun)
        if number > len(self._done):
            raise Pending(number - 1)
        if not is_moment(moment) or number > 0 and moment <= self._done[-1]:
            raise InvalidMoment(moment)
        if not isinstance(contents, Contents) or number > 0 and not have_roles(contents, self._begun[0][1].roles):
            raise InvalidContents(None)
        if number == MOST_EDITIONS:
            raise LimitExceeded(MOST_EDITIONS)
        self._lines.append(f"begin {number} {moment} {format_contents(contents)}")
        self._begun.append((moment, contents))
        return number

    def done(self, moment):
        """Publishes the pending edition and returns its number."""
        number = len(self._done)
        if number == len(self._begun):
            raise UnknownEdition(None)
        if not is_moment(moment) or moment < self._begun[number][0]:
            raise InvalidMoment(moment)
        self._lines.append(f"done {number} {moment}")
        self._done.append(moment)
        return number

    def _follow(self, line):
        """Writes a line once more, or raises an error."""
        words = line.split(" ")
        if words[0] == "begin" and len(words) > 3:
            self.begin(_told_moment(words[2]), parse_contents(" ".join(words[3:])))
        elif words[0] == "done" and len(words) == 3:
            self.done(_told_moment(words[2]))
        else:
            raise ParseError(None)
        # The number of the edition could be another one.
        if self._lines[-1] != line:
            raise ParseError(None)

    def entry(self, number):
        """The contents of an edition that was begun."""
        if not is_index(number, len(self._begun)):
            raise UnknownEdition(number)
        return self._begun[number][1]

    def plan(self):
        """The plan of the editions that are done, or None."""
        if not self._done:
            return None
        return Plan([(self._done[number], self._begun[number][1]) for number in range(len(self._done))])
