"""Switches made anew from their snapshots."""

from nextbough.switches import Switch
from nextbough.tenancystates import put_state


def restored(snapshot):
    """A new switch like the one of which this is the snapshot."""
    made, state, done = snapshot
    switch = Switch(*made)
    put_state(switch.tenancy, state)
    switch.done = list(done)
    return switch
