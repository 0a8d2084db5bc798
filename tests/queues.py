"""Queues for the tests of trains, yards and halves: random sets with a main version, a queue and a check."""

import random

from build import PATHS, TEXTS, closed, name, random_rows, slow_needs, start
from quiltward.checks import is_right
from test_checks import random_check

NEVER, ALWAYS = ("or", []), ("and", [])


def adder(number, *texts, path=None):
    """A patch of bob's that adds a file with its own path and lines, and needs nothing."""
    return start(*texts, one=name("bob", number), path=path or (f"p{number}",))


def plain(many):
    """A set of patches that need nothing, the list of its ids, and a check that the ones with the path "bad" break."""
    rows = [adder(k, "x") for k in range(1, many + 1)]
    return {row[1]: row for row in rows}, [row[1] for row in rows]


def without_paths(ids, bad):
    """A check that holds exactly for versions without some ids of a plain set."""
    return ("and", [("most", (f"p{one[2]}",), 0) for one in ids if one in bad])


def mild_check(rng):
    """A random check that many versions keep, and some patches break."""
    rows = [("not", ("line", rng.choice(PATHS), rng.choice(TEXTS))) for _ in range(rng.randint(1, 4))]
    if rng.random() < 0.5:
        rows.append(("most", rng.choice(PATHS), rng.randint(0, 4)))
    if rng.random() < 0.3:
        rows.append(("or", [("not", ("file", rng.choice(PATHS))), ("file", rng.choice(PATHS))]))
    return ("and", rows)


def random_case(seed):
    """A set, a main version, a queue and a check."""
    rng = random.Random(seed)
    rows = random_rows(seed, rng.randint(4, 10)) + [adder(k, rng.choice(TEXTS), path=rng.choice(PATHS)) for k in (91, 92, 93)]
    ids = [row[1] for row in rows]
    main = [row[1] for row in closed(rows, rng.sample(ids, rng.randint(0, 2)))]
    queue = [one for one in rng.sample(ids, len(ids)) if one not in main]
    if rng.random() < 0.7:
        # Mostly in an order of the set, so that few ids lack what they need.
        queue = [one for one in ids if one not in main]
    check = rng.choice([random_check(rng, 2), ("clear",), mild_check(rng), mild_check(rng), mild_check(rng)])
    return {row[1]: row for row in rows}, rng.sample(main, len(main)), queue[-rng.randint(1, 10):], check


def slow_train(patches, main, queue, check):
    """The report and the main line of a train, as point 162 says it."""
    line, report = [sorted(main)], []
    for one in queue:
        lacked = [other for other in slow_needs(patches[one]) if other not in line[-1]]
        version = sorted(line[-1] + [one])
        if lacked:
            report.append((one, ("needs", lacked)))
        elif is_right(patches, version, check):
            report.append((one, ("in",)))
            line.append(version)
        else:
            report.append((one, ("fails",)))
    return report, line
