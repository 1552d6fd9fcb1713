"""Builds lines of calls and takes their answers apart, for all tests of the package."""

from camshow.show import answers

GREATEST = 4294967295


def begins(places, foot):
    return [0, places, len(foot)] + foot


def cam(radii):
    return [1, len(radii)] + radii


def wish(heights):
    return [2, len(heights)] + heights


def moves(number):
    return [3, number]


def line_of(calls):
    line = []
    for call in calls:
        line.extend(call)
    return line


def taken_apart(given):
    parts = []
    at = 0
    while at < len(given):
        end = at + 1 + given[at]
        if given[at] < 1 or end > len(given):
            raise AssertionError(f"a wrong count at {at} of {given}")
        parts.append(given[at + 1:end])
        at = end
    return parts


def ask(*calls):
    return taken_apart(answers(line_of(calls)))


def motion_by_places(radii, foot):
    """A cam's motion the other way about: each radius pushes up the followers that reach it."""
    places = len(radii)
    motion = [0] * places
    for pushed_from, radius in enumerate(radii):
        for steps in range(1 - len(foot), len(foot)):
            follower = (pushed_from + steps) % places
            motion[follower] = max(motion[follower], radius - foot[abs(steps)])
    return motion
