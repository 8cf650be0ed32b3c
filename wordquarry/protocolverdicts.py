"""Which promises a protocol keeps, decided for all runs."""

from wordquarry.errors import BadText, BadWord
from wordquarry.protocolruns import played
from wordquarry.protocols import CommitProtocol
from wordquarry.runsearches import RunMaker, broken_promises

PROMISES = ("found", "kept", "whole", "fresh", "clean")


def check_promise(promise):
    if not isinstance(promise, str) or promise not in PROMISES:
        raise BadWord("promise")


def kept(protocol):
    """The promises that a protocol keeps, in their order."""
    broken = broken_promises(protocol, PROMISES)
    return tuple([promise for promise in PROMISES if promise not in broken])


def keeps(protocol, promise):
    """Whether a protocol keeps a promise."""
    return least_run(protocol, promise) is None


def least_run(protocol, promise):
    """A run of the least weight by which a promise is broken, or None."""
    check_promise(promise)
    return made_run(protocol, broken_promises(protocol, (promise,)), promise)


def least_runs(protocol):
    """For each promise such a run, or None."""
    broken = broken_promises(protocol, PROMISES)
    return {promise: made_run(protocol, broken, promise) for promise in PROMISES}


def made_run(protocol, broken, promise):
    if promise not in broken:
        return None
    return RunMaker(protocol).made(broken[promise])


def weight_of(protocol, run):
    """How many commits, stops and cuts, new and dropped files, and lines a run has, up to where it
    breaks a promise."""
    return tuple(played(protocol, run).weight)


def needless(protocol):
    """The numbers of the lines without which, each alone, the same promises are kept."""
    promises = kept(protocol)
    many = len(protocol.commit_lines) + len(protocol.recovery_lines)
    found = []
    for number in range(1, many + 1):
        further = without_line(protocol, number)
        if further is not None and kept(further) == promises:
            found.append(number)
    return tuple(found)


def without_line(protocol, number):
    """The protocol without a line, None if the texts are none then."""
    lines = [" ".join(words) for words in protocol.commit_lines + protocol.recovery_lines]
    many = len(protocol.commit_lines)
    if number <= many:
        many -= 1
    lines = lines[:number - 1] + lines[number:]
    further = None
    try:
        further = CommitProtocol("\n".join(lines[:many]), "\n".join(lines[many:]))
    except BadText:
        further = None
    return further
