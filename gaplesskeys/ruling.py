"""The rules for the moments of a list of contents, before the greatest wait of each pair is taken.

A rule (later, earlier, wait) says that the moment of the edition later is at
least that of the edition earlier plus wait. Nothing is checked here.
"""

from gaplesskeys.faults import is_refused
from gaplesskeys.serving import accepting, server_kinds

# The number of the origin, whose moment is 0.
ORIGIN = -1


def order_rules(many, start):
    """That the first edition is published at the start, and the others one after another."""
    found = [(0, ORIGIN, start), (ORIGIN, 0, -start)]
    return found + [(number + 1, number, 1) for number in range(many - 1)]


def call_rules(contents, fleet):
    """That no call is refused."""
    numbers = range(len(contents))
    found = []
    for role, client, server, life in fleet.calls():
        client_wait = fleet.lateness(client) + life - 1
        server_wait = fleet.lateness(server) - 1
        for made_in in numbers:
            for shown_to in numbers:
                if not is_refused(contents, role, made_in, shown_to):
                    continue
                if made_in < shown_to:
                    found.append((shown_to, made_in + 1, client_wait))
                elif made_in > shown_to:
                    found.append((made_in, shown_to + 1, server_wait))
                else:
                    found.append((made_in, made_in, 1))
    return found


def take_rules(contents, fleet):
    """That no service is locked out."""
    latenesses = [fleet.lateness(kind) for kind in fleet.names()]
    found = []
    for late in range(len(contents)):
        for early in range(late):
            if not contents[early].takes(contents[late]):
                found = found + [(late, early + 1, lateness) for lateness in latenesses]
    return found


def day_rules(contents, fleet, days):
    """That no key is accepted on or after its day."""
    found = []
    for role, key in days:
        for number in accepting(contents, role, key):
            for kind in server_kinds(fleet, role):
                if number + 1 == len(contents):
                    found.append((ORIGIN, ORIGIN, 1))
                else:
                    found.append((ORIGIN, number + 1, fleet.lateness(kind) - 1 - days[(role, key)]))
    return found


def life_rules(contents, fleet, lives):
    """That no key is accepted longer than its lifetime."""
    found = []
    for role, key in lives:
        numbers = accepting(contents, role, key)
        for number in numbers:
            for kind in server_kinds(fleet, role):
                if number + 1 == len(contents):
                    found.append((numbers[0], numbers[0], 1))
                else:
                    found.append((numbers[0], number + 1, fleet.lateness(kind) - 2 - lives[(role, key)]))
    return found


def greatest_rules(found):
    """The rules with the greatest wait for each pair, sorted, without those that say nothing."""
    waits = {}
    for later, earlier, wait in found:
        place = (later, earlier)
        if later == earlier and wait <= 0:
            continue
        if place not in waits or waits[place] < wait:
            waits[place] = wait
    return sorted(set([(later, earlier, waits[(later, earlier)]) for later, earlier in waits]))
