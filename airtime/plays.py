"""Whole plays: an Air, and steps that are done on it."""

from airtime.air import Air
from airtime.errors import AirError


def done(air, step):
    """Do a step, and tell what it tells."""
    word = step[0]
    if word == "go":
        return air.go(step[1])
    if word == "longer":
        return air.longer(step[1])
    if word == "ended":
        return air.ended()
    if word == "add":
        return air.add(step[1], step[2])
    return air.remove(step[1])


def done_or_no(air, step):
    """Do a step, and tell what it tells, "no" if it is refused."""
    try:
        return done(air, step)
    except AirError:
        return "no"


def played(rows, fillers, end, steps):
    """Make an Air, do steps, and tell a list of what each tells, and the Air."""
    air = Air(rows, fillers, end)
    told = [done_or_no(air, step) for step in steps]
    return told, air
