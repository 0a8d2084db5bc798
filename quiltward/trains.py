"""Trains, which bring the ids of a queue into a main line, one by one."""

from quiltward.checks import is_right
from quiltward.patches import needs


def lacking(patch, version):
    """Return the list of the ids that a patch itself needs and a version does not have, ascending."""
    return [name for name in needs(patch) if name not in version]


def grown(version, ids):
    """Return the version with some more ids."""
    return sorted(version + ids)


def verdict_on(patches, version, name, check):
    """Return the verdict on an id by the last version of the main line."""
    lacked = lacking(patches[name], version)
    if lacked:
        return "needs", lacked
    return ("in",) if is_right(patches, grown(version, [name]), check) else ("fails",)


def train(patches, main, queue, check):
    """Return the pair of the report and the main line of a train."""
    report, version = [], sorted(main)
    for name in queue:
        verdict = verdict_on(patches, version, name, check)
        report.append((name, verdict))
        if verdict == ("in",):
            version = grown(version, [name])
    return report, line_of(main, report)


def line_of(main, report):
    """Return the main line that a report tells."""
    line = [sorted(main)]
    for name, verdict in report:
        if verdict == ("in",):
            line.append(grown(line[-1], [name]))
    return line


def report_right(patches, main, queue, check, report):
    """Return whether a list of pairs of an id and a verdict is the report of a train."""
    return report == train(patches, main, queue, check)[0]
