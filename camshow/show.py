"""A show: a box of cams, the foot of their followers, a wished motion, and the line of calls about them."""

FEWEST_PLACES = 2
MOST_PLACES = 8
MOST_CAMS = 4
LONGEST_FOOT = 4
GREATEST_LIFT = 100
GREATEST_RADIUS = 100
GREATEST_HEIGHT = 400

BEGINS = 0
CAM = 1
WISH = 2
MOVES = 3


class UnknownCall(ValueError):
    pass


class Reader:
    def __init__(self, calls):
        self.calls = calls
        self.at = 0

    def has_more(self):
        return self.at < len(self.calls)

    def number(self):
        taken = self.calls[self.at]
        self.at = self.at + 1
        return taken

    def row(self):
        length = self.number()
        start = self.at
        self.at = start + length
        # A slice is a copy, so that what a show keeps is never the caller's own list.
        return self.calls[start:self.at]


class Show:
    def __init__(self):
        self.start_anew(FEWEST_PLACES, [0])

    def start_anew(self, places, foot):
        self.places = places
        self.foot = foot
        self.cams = []
        self.wished = [0] * places

    def begins(self, places, foot):
        if not FEWEST_PLACES <= places <= MOST_PLACES or not is_foot(foot):
            return [-1]
        self.start_anew(places, foot)
        return [0]

    def cam(self, radii):
        # The document tells -1 ahead of -5, so wrong radii are refused first even when the box is full.
        if not fits_places(radii, self.places, GREATEST_RADIUS):
            return [-1]
        if len(self.cams) == MOST_CAMS:
            return [-5]
        self.cams.append(radii)
        return [len(self.cams) - 1]

    def wish(self, heights):
        if not fits_places(heights, self.places, GREATEST_HEIGHT):
            return [-1]
        self.wished = heights
        return [0]

    def moves(self, cam):
        if cam >= len(self.cams):
            return [-2]
        motion = motion_of(self.cams[cam], self.foot)
        return [max(motion)] + motion


def none_above(numbers, greatest):
    return all([number <= greatest for number in numbers])


def is_foot(numbers):
    if not 1 <= len(numbers) <= LONGEST_FOOT:
        return False
    return numbers[0] == 0 and none_above(numbers, GREATEST_LIFT)


def fits_places(numbers, places, greatest):
    return len(numbers) == places and none_above(numbers, greatest)


def height_at(place, radii, foot):
    places = len(radii)
    # A height is never below 0, so the search for the greatest starts there.
    height = 0
    for aside, lift in enumerate(foot):
        on = radii[(place + aside) % places]
        back = radii[(place - aside) % places]
        height = max(height, on - lift, back - lift)
    return height


def motion_of(radii, foot):
    return [height_at(place, radii, foot) for place in range(len(radii))]


def answer_call(show, reader):
    call = reader.number()
    if call == BEGINS:
        places = reader.number()
        return show.begins(places, reader.row())
    if call == CAM:
        return show.cam(reader.row())
    if call == WISH:
        return show.wish(reader.row())
    if call == MOVES:
        return show.moves(reader.number())
    raise UnknownCall(f"no call has the number {call}")


def answers(calls):
    show = Show()
    reader = Reader(calls)
    given = []
    while reader.has_more():
        answer = answer_call(show, reader)
        given.append(len(answer))
        given.extend(answer)
    return given
