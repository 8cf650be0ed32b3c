"""Runs of a protocol, from the beginning on."""

from wordquarry.errors import BadCrash
from wordquarry.runplaying import RunPlayer


def play_run(protocol, run):
    """The first promise that a run breaks, or None, and the disk as it is then."""
    player = played(protocol, run)
    return player.promise, player.disk


def played(protocol, run):
    """A player that has played a run, up to where it breaks a promise."""
    if not isinstance(run, (list, tuple)):
        raise BadCrash(0)
    player = RunPlayer(protocol)
    for place in range(len(run)):
        if player.promise is None:
            player.play(run[place], place)
    return player
