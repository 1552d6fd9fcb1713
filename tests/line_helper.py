"""Builds lines of calls and takes their answers apart, for all tests of the package."""

import itertools

from camshow.show import answers

GREATEST = 4294967295


def begins(places, foot):
    return [0, places, len(foot)] + foot


def cam(radii):
    return [1, len(radii)] + radii


def wish(heights):
    return [2, len(heights)] + heights


def moves(number):
    return [3, number]


def sums(plan):
    return [4, len(plan)] + plan


def nearest():
    return [5]


def best():
    return [6]


def line_of(calls):
    line = []
    for call in calls:
        line.extend(call)
    return line


def taken_apart(given):
    parts = []
    at = 0
    while at < len(given):
        end = at + 1 + given[at]
        if given[at] < 1 or end > len(given):
            raise AssertionError(f"a wrong count at {at} of {given}")
        parts.append(given[at + 1:end])
        at = end
    return parts


def ask(*calls):
    return taken_apart(answers(line_of(calls)))


def box(foot, cams, wished):
    """The calls that lay a box ready; they are answered with [0], the cams' numbers, [0]."""
    return [begins(len(wished), foot)] + [cam(radii) for radii in cams] + [wish(wished)]


def ask_box(foot, cams, wished, *calls):
    """What is answered to the calls about a box that was laid ready."""
    given = ask(*box(foot, cams, wished), *calls)
    if given[:len(cams) + 2] != [[0]] + [[number] for number in range(len(cams))] + [[0]]:
        raise AssertionError(f"the box was refused: {given}")
    return given[len(cams) + 2:]


def drawn_box(chance, places, cams, length, highest):
    """A foot of that length, cams and a wish, drawn by chance and none of them higher than that."""
    foot = [0] + [chance.randint(0, min(highest, 100)) for aside in range(1, length)]
    radii = [[chance.randint(0, min(highest, 100)) for place in range(places)] for number in range(cams)]
    return foot, radii, [chance.randint(0, highest * 2) for place in range(places)]


def motion_by_places(radii, foot):
    """A cam's motion the other way about: each radius pushes up the followers that reach it."""
    places = len(radii)
    motion = [0] * places
    for pushed_from, radius in enumerate(radii):
        for steps in range(1 - len(foot), len(foot)):
            follower = (pushed_from + steps) % places
            motion[follower] = max(motion[follower], radius - foot[abs(steps)])
    return motion


def lever_by_places(motions, plan, places):
    """What the lever does: each height of a motion is carried back to the place where it comes to lie."""
    lever = [0] * places
    for motion, turn in zip(motions, plan):
        if turn < places:
            for place, height in enumerate(motion):
                lever[(place - turn) % places] += height
    return lever


def lone_motions(places, foot, radius):
    """For each place the motion of a cam that has this radius there and 0 elsewhere."""
    return [motion_by_places([radius * (at == place) for at in range(places)], foot) for place in range(places)]


def cut_by_places(left, lone):
    """The cam with the greatest radii that, each by itself, lift nothing above what's left."""
    return [1000 + min(room - height for room, height in zip(left, motion)) for motion in lone]


def every_plan_by_itself(foot, cams, wished):
    """All plans in an order of no meaning, the last first, each with how many cams it has and what the lever does."""
    places = len(wished)
    motions = [motion_by_places(radii, foot) for radii in cams]
    plans = itertools.product(range(places, -1, -1), repeat=len(cams))
    return [(plan, sum(turn < places for turn in plan), lever_by_places(motions, plan, places)) for plan in plans]


def told(graded):
    """graded: (how bad, how many cams, plan) for each; the least of them is the earliest of the good ones."""
    bad, cams, plan = min(graded)
    return [bad, cams, sum(grade[:2] == (bad, cams) for grade in graded)] + list(plan)


def nearest_by_all_plans(foot, cams, wished):
    return told([
        (sum(max(height - wish_here, wish_here - height) for height, wish_here in zip(lever, wished)), number, plan)
        for plan, number, lever in every_plan_by_itself(foot, cams, wished)
    ])


def best_by_all_plans(foot, cams, wished):
    # A radius of 1000 is above every wish and every lift, so that a lone cam's motion shows the whole foot.
    lone = lone_motions(len(wished), foot, 1000)
    graded = []
    cut_for = {}
    for plan, number, lever in every_plan_by_itself(foot, cams, wished):
        left = [wish_here - height for height, wish_here in zip(lever, wished)]
        if min(left) >= 0:
            cut_for[plan] = cut_by_places(left, lone)
            graded.append((sum(left) - sum(motion_by_places(cut_for[plan], foot)), number, plan))
    return told(graded) + cut_for[min(graded)[2]]
