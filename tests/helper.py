"""What several tests need: values of all kinds, the error of a call, and plans and fleets."""

import itertools

from gaplesskeys.contents import Contents
from gaplesskeys.fleets import Fleet, Kind
from gaplesskeys.plans import Plan

# The last moment that can be given, and the longest gap, age and lifetime.
LAST = 10 ** 40
LONGEST = 10 ** 30


def raised(call, *args, **named):
    """The exception that a call raises, None if it raises none."""
    try:
        call(*args, **named)
    except Exception as error:
        return error
    return None


def told_error(call, *args, **named):
    """The class of the exception that a call raises, and the value in its field."""
    error = raised(call, *args, **named)
    if error is None:
        return None
    fields = list(vars(error).values())
    return (type(error), fields[0] if len(fields) == 1 else fields)


def contents(accepted="a", used=None, vouchers="", needed=0, signers=None, role="app"):
    """Contents with one role, where each letter is a key."""
    used = used or (accepted or "a")[0]
    signers = None if signers is None else list(signers)
    return Contents({role: (list(accepted), used)}, list(vouchers), needed=needed, signers=signers)


def plan_of(*editions):
    """A plan of pairs of a moment and contents."""
    return Plan(list(editions))


def plain_plan(*moments):
    """A plan of editions with equal contents, which take each other."""
    return Plan([(moment, contents()) for moment in moments])


def fleet_of(calls=(), **kinds):
    """A fleet of kinds told as tuples (gap, age, source), each behind its source, and calls."""
    fleet = Fleet()
    for name, (gap, age, source) in kinds.items():
        fleet[name] = Kind(gap=gap, age=age, source=source)
    for role, client, server, life in calls:
        fleet.add_call(role, client, server, life=life)
    return fleet


def small_contents(random, roles):
    """Some contents over a few keys."""
    def some(keys, most):
        return random.sample(keys, random.randint(0, most))
    uses = {role: (some("abc", 3), random.choice("abc")) for role in roles}
    return Contents(uses, some("vwx", 2), needed=random.choice([0, 1, 1, 2]), signers=some("vwx", 3))


def small_plan(random, most=4, roles=("app",)):
    """Some plan with small moments."""
    moments = list(itertools.accumulate(random.choice([1, 1, 2, 3, 5]) for _ in range(random.randint(1, most))))
    start = random.randint(0, 2)
    return Plan([(start + moment, small_contents(random, roles)) for moment in moments])


def orderly_plan(random, most=6):
    """Some plan each edition of which differs little from the one ahead, often without faults."""
    accepted, used, vouchers, signers = ["a"], "a", ["v"], ["v"]
    editions, moment = [], random.randint(0, 2)
    for _ in range(random.randint(2, most)):
        editions.append((moment, contents(accepted, used, vouchers, 1, signers)))
        moment += random.choice([1, 2, 4, 8, 12])
        step = random.randrange(6)
        if step <= 1:
            accepted = sorted({*accepted, random.choice("abc")})
        elif step == 2:
            used = random.choice(accepted)
        elif step == 3:
            accepted = [key for key in accepted if key == used or random.random() < 0.3]
        elif step == 4:
            vouchers = random.choice([["v"], ["w"], ["v", "w"]])
        else:
            signers = [random.choice(vouchers)]
    return Plan(editions)


def small_fleet(random, most=3, roles=("app",)):
    """Some fleet with small gaps, ages and lifetimes."""
    fleet = Fleet()
    for name in "kmlnj"[:random.randint(1, most)]:
        sources = [None] + [other for other in fleet.names() if len(fleet.chain(other)) < 4]
        age = random.choice([None, None, 0, 1, 2])
        fleet[name] = Kind(gap=random.randint(1, 3), age=age, source=random.choice(sources))
    for _ in range(random.randint(0, 3)):
        client, server = random.choice(fleet.names()), random.choice(fleet.names())
        fleet.add_call(random.choice(roles), client, server, life=random.randint(0, 3))
    return fleet


def near_contents(source, many):
    """Some contents each of which differs little from the one ahead."""
    accepted, used, vouchers, signers = ["a"], "a", ["v"], ["v"]
    found = []
    for _ in range(many):
        found.append(contents(accepted, used, vouchers, 1, signers))
        step = source.randrange(6)
        if step <= 1:
            accepted = sorted({*accepted, source.choice("abc")})
        elif step == 2:
            used = source.choice(accepted)
        elif step == 3:
            accepted = [used]
        elif step == 4:
            vouchers = source.choice([["v"], ["w"], ["v", "w"]])
        else:
            signers = [source.choice(vouchers)]
    return found


# Values that are no integers of at most sixty digits, or not what a word is.
NO_INTEGERS = [
    True, False, None, "", "1", "a", b"1", 1.0, float("nan"), (), (1,), [], [1],
    {}, {1: 2}, set(), frozenset(), object(), int, len, range(3), Ellipsis,
    10 ** 60, -10 ** 60, 10 ** 5000,
]
NO_WORDS = [
    True, False, None, 0, 1, -1, 1.5, "", "A", "aB", "a1", "1", " a", "a ", "a b",
    "a,b", "a\n", "a_b", "abcdefghi", "a" * 1000, b"a", ("a",), ["a"], {"a": 1},
    {"a"}, object(), str, len, "\u00e9", "\u00df", "\u0430", "\ud800",
]
# Values that are no moments, and no numbers of anything.
NO_MOMENTS = [*NO_INTEGERS, -1, -LAST, LAST + 1, 10 ** 41]
# Values that are no contents, and no lists of one to seven contents with the same roles.
NO_CONTENTS = [
    *NO_INTEGERS, 0, 1, Contents, "app a a | - 0 -", Plan([(0, contents())]), Fleet(), Kind(gap=1), ({"app": (["a"], "a")}, []),
    [contents()],
]
NO_CONTENTS_LISTS = [
    *[value for value in NO_CONTENTS if value != [contents()]], contents(), [contents()] * 8, (contents(),),
    {0: contents()}, [contents(), contents(role="web")], [contents()] * 6 + [contents(role="ap")],
    [contents(), Contents({"app": (["a"], "a"), "web": (["a"], "a")}, [])], [[contents()]],
    *[[value] for value in NO_CONTENTS], *[[contents(), value] for value in NO_CONTENTS],
]
