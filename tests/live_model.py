"""A model of the services of a live publisher [24], written apart from the program, to compare it with.

It goes through all moments one by one, and through all that one service can
do, so that it is for small moments only. Services do not depend on each
other, since all of them read the publisher.
"""

from tests.model import Line, latest_edition, takes


class Service:
    """What one service can hold in the runs that agree with its reports.

    A state is a pair of a machine, which is None or a triple (edition, moments
    since it began or pulled, whether it began from a copy and did not pull
    since), and the editions of which there can be copies, for each of the last
    moments.
    """

    def __init__(self, line, kind, reports, now, until):
        self.line, self.gap, self.age, self.reports, self.now = line, kind.gap, kind.age, set(reports), now
        self.held = {}
        self.lockouts = set()
        states = {(None, (frozenset(),) * (self.age or 0))}
        for moment in range(line.moment_of(0), until + 1):
            self.held[moment] = set()
            states = {after for state in states for after in self.steps(moment, *state)}

    def steps(self, moment, machine, donors):
        if moment not in self.reports:
            yield from self.quiet_steps(moment, machine, donors)
        current = latest_edition(self.line, moment)
        yield self.after(moment, (current, 0, False), donors, {current})
        if machine is not None and machine[1] + 1 <= self.gap:
            held = machine[0]
            if held < current and not takes(self.line, held, current):
                self.lockouts.add((held, current))
                yield self.after(moment, None, donors, set())
            else:
                yield self.after(moment, (max(held, current), 0, False), donors, {max(held, current)})

    def quiet_steps(self, moment, machine, donors):
        """The steps in which the publisher is not read."""
        yield self.after(moment, None, donors, set())
        left = None
        if machine is not None and machine[1] + 1 < self.gap:
            left = (machine[0], machine[1] + 1, machine[2])
        given = {left[0]} if left is not None and not left[2] else set()
        if left is not None:
            yield self.after(moment, left, donors, given)
        if self.age is not None:
            for edition in set().union(*donors, given):
                yield self.after(moment, (edition, 0, True), donors, given)

    def after(self, moment, machine, donors, given):
        if machine is not None:
            self.held[moment].add(machine[0])
        return machine, (*donors, frozenset(given))[1:] if self.age else ()

    def last_held(self, number):
        return max(moment for moment in self.held if number in self.held[moment])


def services_of(line, kinds, reports, now, until):
    """The models of services, which are given by dicts from their names."""
    return {name: Service(line, kinds[name], reports[name], now, until) for name in kinds}


def faults_between(found, names, line, calls, until):
    """All refusals between two different services, and all lockouts."""
    faults = {("jump", name, *pair) for name in found for pair in found[name].lockouts}
    for number, (role, client, server, life) in enumerate(calls):
        for one in found:
            for two in found:
                if one == two or (names[one], names[two]) != (client, server):
                    continue
                for made in range(line.moment_of(0), until + 1):
                    for shown in range(made, min(made + life, until) + 1):
                        for i in found[one].held[made]:
                            for j in found[two].held[shown]:
                                if line.contents_of(i).used(role) not in line.contents_of(j).accepted(role):
                                    faults.add(("call", number, i, j))
    return faults


def earliest_of(plan, fleet, names, reports, now, contents, latest):
    """The least moment at which contents do no harm, by a search through all runs, None if none is at most the latest."""
    kinds = {name: fleet[names[name]] for name in names}
    for moment in range(max(now, plan.moment_of(len(plan) - 1) + 1), latest + 1):
        numbers = range(len(plan))
        line = Line([*map(plan.moment_of, numbers), moment], [*map(plan.contents_of, numbers), contents])
        until = moment + 14
        found = services_of(line, kinds, reports, now, until)
        if not [fault for fault in faults_between(found, names, line, fleet.calls(), until) if len(plan) in fault[2:]]:
            return moment
    return None


def last_held_by_words(kind, reports, moments, number):
    """The last moment by the words of [25], where all moments are tried."""
    begin = moments[number + 1] - 1

    def until(moment):
        after = [report for report in reports if report > moment]
        return min([moment + kind.gap - 1, *[report - 1 for report in after]])

    last = until(begin)
    if kind.age is None:
        return last
    free = [moment for moment in range(last, last + kind.age + 1) if moment not in reports]
    return until(max(free)) if free else last


def may_publish(plan, fleet, names, reports, contents, moment):
    """Whether contents may be published at a moment by the words of [26]."""
    moments, numbers = [*plan.moments(), moment], range(len(plan))

    def end(name, number):
        return last_held_by_words(fleet[names[name]], reports[name], moments, number)

    for role, client, server, life in fleet.calls():
        for c in names:
            for v in names:
                if c == v or names[c] != client or names[v] != server:
                    continue
                if contents.used(role) not in contents.accepted(role):
                    return False
                for i in numbers:
                    held = plan.contents_of(i)
                    if end(c, i) + life >= moment and held.used(role) not in contents.accepted(role):
                        return False
                    if end(v, i) >= moment and contents.used(role) not in held.accepted(role):
                        return False
    for name in names:
        for i in numbers:
            if end(name, i) >= moment - 1 and not plan.contents_of(i).takes(contents):
                return False
    return True
