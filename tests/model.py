"""Models of promises [9] to [13], written apart from the program, to compare it with.

Both go through all moments one by one, so that they are for small moments only.
"""


def latest_edition(plan, moment):
    """The number of the edition that the publisher tells."""
    return max(n for n in range(len(plan)) if plan.moment_of(n) <= moment)


def takes(plan, early, late):
    one, two = plan.contents_of(early), plan.contents_of(late)
    return len(set(one.vouchers) & set(two.signers)) >= one.needed


class Possible:
    """All that machines of a fleet can do until a moment, of any number of them.

    A state of a machine is (edition, moments since it began or pulled,
    whether it began from a copy and did not pull since).
    """

    def __init__(self, plan, fleet, until):
        self.plan = plan
        self.start = plan.moment_of(0)
        self.until = until
        self.states = {}
        self.jumps = {}
        for name in sorted(fleet.names(), key=lambda name: len(fleet.chain(name))):
            self.jumps[name] = set()
            self.states[name] = {}
            self.explore(name, fleet[name])

    def held(self, name, moment):
        """The editions that the kind can hold at a moment."""
        return {edition for edition, _, _ in self.states[name].get(moment, ())}

    def readable(self, kind, moment):
        if kind.source is None:
            return {latest_edition(self.plan, moment)}
        return self.held(kind.source, moment)

    def explore(self, name, kind):
        for moment in range(self.start, self.until + 1):
            now = {(edition, 0, False) for edition in self.readable(kind, moment)}
            for edition, since, copied in self.states[name].get(moment - 1, ()):
                if since + 1 < kind.gap:
                    now.add((edition, since + 1, copied))
                now |= {(after, 0, False) for after in self.pulled(name, edition, self.readable(kind, moment))}
            self.states[name][moment] = now
            if kind.age is not None:
                for ahead in range(max(self.start, moment - kind.age), moment + 1):
                    donors = [edition for edition, _, copied in self.states[name][ahead] if not copied]
                    now |= {(edition, 0, True) for edition in donors}

    def pulled(self, name, edition, readable):
        """The editions that a machine can hold behind a pull."""
        for read in readable:
            if read <= edition:
                yield edition
                continue
            self.jumps[name].add((edition, read))
            if takes(self.plan, edition, read):
                yield read


def lockouts_of(possible):
    found = []
    for name in possible.jumps:
        found += [(name, i, j) for i, j in possible.jumps[name] if not takes(possible.plan, i, j)]
    return sorted(found)


def meetings_of(possible, call):
    """The pairs of editions of a client and a server that can meet."""
    _, client, server, life = call
    found = set()
    for made in range(possible.start, possible.until + 1):
        for moment in range(made, min(made + life, possible.until) + 1):
            found |= {(i, j) for i in possible.held(client, made) for j in possible.held(server, moment)}
    return sorted(found)


class Referee:
    """Plays a run of proper form moment by moment, and tells what is wrong in it."""

    def __init__(self, plan, fleet, run, until):
        self.plan, self.fleet, self.until = plan, fleet, until
        self.wrong = None
        self.table = []
        self.lockouts = []
        self.answers = []
        machines, shown = run
        self.machines = machines
        for number, machine in enumerate(machines):
            if not self.play(number, *machine):
                self.wrong = number
                return
        for number, credential in enumerate(shown):
            if not self.show(*credential):
                self.wrong = -1 - number
                return

    def play(self, number, name, begun, origin, pulls):
        kind = self.fleet[name]
        moments = [begun] + [moment for moment, _ in pulls]
        steps = [after - ahead for ahead, after in zip(moments, moments[1:])]
        if begun < self.plan.moment_of(0) or any(not 1 <= step <= kind.gap for step in steps):
            return False
        held = self.begin(number, name, kind, begun, origin)
        if held is None:
            return False
        row, lockout, pulls = {}, None, dict(pulls)
        for moment in range(begun, moments[-1] + kind.gap):
            if moment in pulls:
                read = self.read(number, kind, pulls[moment], moment)
                if read is None:
                    return False
                if held is not None and read > held and not takes(self.plan, held, read):
                    lockout, held = (moment, held, read), None
                elif held is not None:
                    held = max(held, read)
            row[moment] = held
        self.table.append(row)
        self.lockouts.append(lockout)
        return True

    def read(self, number, kind, source, moment):
        """What is read at a moment, None if that is not possible."""
        if kind.source is None:
            return None if source is not None else latest_edition(self.plan, moment)
        if source is None or isinstance(source, tuple) or not 0 <= source < number:
            return None
        return self.table[source].get(moment) if self.machines[source][0] == kind.source else None

    def begin(self, number, name, kind, begun, origin):
        if not isinstance(origin, tuple):
            return self.read(number, kind, origin, begun)
        donor, moment = origin
        if kind.age is None or not 0 <= donor < number or self.machines[donor][0] != name:
            return None
        if not 0 <= begun - moment <= kind.age:
            return None
        _, _, donor_origin, donor_pulls = self.machines[donor]
        if isinstance(donor_origin, tuple) and not [ahead for ahead, _ in donor_pulls if ahead <= moment]:
            return None
        return self.table[donor].get(moment)

    def show(self, call, client, made, server, moment):
        calls, many = self.fleet.calls(), len(self.machines)
        if not 0 <= call < len(calls) or not (0 <= client < many and 0 <= server < many) or client == server:
            return False
        role, client_kind, server_kind, life = calls[call]
        if (self.machines[client][0], self.machines[server][0]) != (client_kind, server_kind):
            return False
        one, two = self.table[client].get(made), self.table[server].get(moment)
        if one is None or two is None or not 0 <= moment - made <= life:
            return False
        self.answers.append(self.plan.contents_of(one).used(role) in self.plan.contents_of(two).accepted(role))
        return True


class Line:
    """Editions like those of a plan, but of any number and with any moments."""

    def __init__(self, moments, items):
        self.moments, self.items = list(moments), list(items)

    def __len__(self):
        return len(self.items)

    def moment_of(self, number):
        return self.moments[number]

    def contents_of(self, number):
        return self.items[number]


def cut_line(plan, number, moment, contents):
    """The editions of a plan until one, and behind it contents at a moment."""
    numbers = range(number + 1)
    return Line([*map(plan.moment_of, numbers), moment], [*map(plan.contents_of, numbers), contents])


def faults_by_words(line, fleet):
    """All refusals and lockouts by the words of [12] and [13]."""
    many, found = len(line), []

    def end(number, delay):
        return line.moment_of(number + 1) + delay if number + 1 < many else float("inf")

    for call, (role, client, server, life) in enumerate(fleet.calls()):
        for i in range(many):
            for j in range(many):
                first = max(line.moment_of(i), line.moment_of(j))
                if first <= end(i, fleet.lateness(client) - 2 + life) and first <= end(j, fleet.lateness(server) - 2):
                    if line.contents_of(i).used(role) not in line.contents_of(j).accepted(role):
                        found.append(("call", call, i, j))
    for kind in fleet.names():
        for j in range(many):
            for i in range(j):
                if line.moment_of(j) <= end(i, fleet.lateness(kind) - 1) and not takes(line, i, j):
                    found.append(("jump", kind, i, j))
    return sorted(found)


def faults_of(possible, fleet):
    """All refusals and lockouts in the runs of a model."""
    plan, found = possible.plan, [("jump", *fault) for fault in lockouts_of(possible)]
    for number, call in enumerate(fleet.calls()):
        for i, j in meetings_of(possible, call):
            if plan.contents_of(i).used(call[0]) not in plan.contents_of(j).accepted(call[0]):
                found.append(("call", number, i, j))
    return sorted(found)


def with_newest(faults, newest):
    """Those faults in which the newest edition takes part."""
    return [fault for fault in faults if newest in fault[2:]]
