"""A show: a box of cams, the foot of their followers, a wished motion, and the line of calls about them."""

FEWEST_PLACES = 2
MOST_PLACES = 8
MOST_CAMS = 4
LONGEST_FOOT = 4
GREATEST_LIFT = 100
GREATEST_RADIUS = 100
GREATEST_HEIGHT = 400

BEGINS = 0
CAM = 1
WISH = 2
MOVES = 3
SUM = 4
NEAREST = 5
BEST = 6


class UnknownCall(ValueError):
    pass


class Reader:
    def __init__(self, calls):
        self.calls = calls
        self.at = 0

    def has_more(self):
        return self.at < len(self.calls)

    def number(self):
        taken = self.calls[self.at]
        self.at = self.at + 1
        return taken

    def row(self):
        length = self.number()
        start = self.at
        self.at = start + length
        # A slice is a copy, so that what a show keeps is never the caller's own list.
        return self.calls[start:self.at]


class Show:
    def __init__(self):
        self.start_anew(FEWEST_PLACES, [0])

    def start_anew(self, places, foot):
        self.places = places
        self.foot = foot
        self.cams = []
        self.wished = [0] * places

    def begins(self, places, foot):
        if not FEWEST_PLACES <= places <= MOST_PLACES or not is_foot(foot):
            return [-1]
        self.start_anew(places, foot)
        return [0]

    def cam(self, radii):
        # The document tells -1 ahead of -5, so wrong radii are refused first even when the box is full.
        if not fits(radii, self.places, GREATEST_RADIUS):
            return [-1]
        if len(self.cams) == MOST_CAMS:
            return [-5]
        self.cams.append(radii)
        return [len(self.cams) - 1]

    def wish(self, heights):
        if not fits(heights, self.places, GREATEST_HEIGHT):
            return [-1]
        self.wished = heights
        return [0]

    def moves(self, cam):
        if cam >= len(self.cams):
            return [-2]
        motion = motion_of(self.cams[cam], self.reaches())
        return [max(motion)] + motion

    def sum_by(self, plan):
        if not fits(plan, len(self.cams), self.places):
            return [-1]
        lever = [0] * self.places
        for motion, turn in zip(self.motions(), plan):
            lever = together(lever, share_of(motion, turn))
        off = off_by_place(lever, self.wished)
        return [sum(off), max(off)] + lever

    def nearest(self):
        graded = []
        for plan, lever in every_plan(self.motions(), self.places):
            off = off_by_place(lever, self.wished)
            graded.append((sum(off), cams_on(plan, self.places), plan))
        return answer_of(graded)

    def best(self):
        reaches = self.reaches()
        graded = []
        for plan, lever in every_plan(self.motions(), self.places):
            if is_nowhere_higher(lever, self.wished):
                # Where the lever is nowhere higher, what it's off is what's left.
                left = off_by_place(lever, self.wished)
                cut = cut_from(left, reaches)
                lacking = sum(left) - sum(motion_of(cut, reaches))
                graded.append((lacking, cams_on(plan, self.places), plan + cut))
        return answer_of(graded)

    def reaches(self):
        return [reach_from(place, self.places, self.foot) for place in range(self.places)]

    def motions(self):
        reaches = self.reaches()
        return [motion_of(radii, reaches) for radii in self.cams]


def none_above(numbers, greatest):
    return all([number <= greatest for number in numbers])


def is_foot(numbers):
    if not 1 <= len(numbers) <= LONGEST_FOOT:
        return False
    return numbers[0] == 0 and none_above(numbers, GREATEST_LIFT)


def fits(numbers, length, greatest):
    return len(numbers) == length and none_above(numbers, greatest)


# The places that the foot reaches from a place, each with by how much the foot is higher there.
def reach_from(place, places, foot):
    lifts = {}
    for aside, lift in enumerate(foot):
        for other in ((place + aside) % places, (place - aside) % places):
            # A place that is reached in several ways, gone round, is touched by the lowest part of the foot alone.
            lifts[other] = min(lift, lifts.get(other, lift))
    return list(lifts.items())


def height_over(radii, reach):
    # The foot reaches the place itself, where it is 0 higher, so no height is below 0.
    return max([radii[place] - lift for place, lift in reach])


def motion_of(radii, reaches):
    return [height_over(radii, reach) for reach in reaches]


def radius_under(left, reach):
    return min([left[place] + lift for place, lift in reach])


def cut_from(left, reaches):
    return [radius_under(left, reach) for reach in reaches]


# What a cam that is turned so adds to the lever.
def share_of(motion, turn):
    # Turned by the number of places is how a plan tells that the cam stays in the box.
    if turn == len(motion):
        return [0] * len(motion)
    return motion[turn:] + motion[:turn]


def together(lever, share):
    return [height + more for height, more in zip(lever, share)]


def off_by_place(lever, wished):
    return [abs(height - wish) for height, wish in zip(lever, wished)]


def is_nowhere_higher(lever, wished):
    return all([height <= wish for height, wish in zip(lever, wished)])


def cams_on(plan, places):
    return len(plan) - plan.count(places)


# All plans, each with what the lever does by it; the earlier comes first, so that a walk meets it first.
def every_plan(motions, places):
    plans = [([], [0] * places)]
    for motion in motions:
        shares = [share_of(motion, turn) for turn in range(places + 1)]
        longer = []
        for plan, lever in plans:
            for turn, share in enumerate(shares):
                longer.append((plan + [turn], together(lever, share)))
        plans = longer
    return plans


# A graded plan is (how bad, how many cams, what else is told); the earlier stands ahead of the later.
def answer_of(graded):
    least = min([(bad, cams) for bad, cams, told in graded])
    good = [told for bad, cams, told in graded if (bad, cams) == least]
    return list(least) + [len(good)] + good[0]


def answer_call(show, reader):
    call = reader.number()
    if call == BEGINS:
        places = reader.number()
        return show.begins(places, reader.row())
    if call == CAM:
        return show.cam(reader.row())
    if call == WISH:
        return show.wish(reader.row())
    if call == MOVES:
        return show.moves(reader.number())
    if call == SUM:
        return show.sum_by(reader.row())
    if call == NEAREST:
        return show.nearest()
    if call == BEST:
        return show.best()
    raise UnknownCall(f"no call has the number {call}")


def answers(calls):
    show = Show()
    reader = Reader(calls)
    given = []
    while reader.has_more():
        answer = answer_call(show, reader)
        given.append(len(answer))
        given.extend(answer)
    return given
