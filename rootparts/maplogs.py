"""Logs of maps: the calls that a map has made, checked and made again."""

from rootparts.errors import RootpartsError
from rootparts.maps import Map
from rootparts.webs import are_whole, is_whole


def map_log(chart):
    """Return the log of the map."""
    return [(call, len(web[1]), roots) for call, web, roots in chart.steps()]


def first_map_fault(n, value):
    """Return the index of the first entry of the list that is not right for a new map, or None if all are right."""
    chart = Map(n)
    for at, entry in enumerate(value):
        if not _goes_on(chart, entry):
            return at
    return None


def _goes_on(chart, value):
    """Return whether the value is an entry that is right for the map, which makes the call if it may."""
    if not isinstance(value, tuple) or len(value) != 3:
        return False
    call, ties, roots = value
    if not _is_call(call) or not is_whole(ties) or not are_whole(roots):
        return False
    try:
        _make(chart, call)
    except RootpartsError:
        return False
    return ties == len(chart) and roots == chart.roots()


def _is_call(value):
    """Return whether the value is the word of a call with as many values behind it as the call takes."""
    if not isinstance(value, tuple) or len(value) == 0:
        return False
    if value[0] in ("tie", "untie"):
        return len(value) == 3
    return value[0] in ("root", "unroot") and len(value) == 2


def _make(chart, call):
    """Let the map make the call."""
    word = call[0]
    if word == "tie":
        chart.tie(call[1], call[2])
    elif word == "untie":
        chart.untie(call[1], call[2])
    elif word == "root":
        chart.root(call[1])
    else:
        chart.unroot(call[1])


def is_map_log(n, value):
    """Return whether the value is a log of a map of n places."""
    return isinstance(value, list) and first_map_fault(n, value) is None


def resumed_map(n, log):
    """Return a new map of n places after the calls of the log."""
    chart = Map(n)
    for call, _, _ in log:
        _make(chart, call)
    return chart


def webs_of_log(n, log):
    """Return the list of the webs behind each call of the log."""
    return [web for _, web, _ in resumed_map(n, log).steps()]
