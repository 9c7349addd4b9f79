"""The calls on one sky, and what is answered to them."""

CALL_BEGINS = 0
CALL_HOUR = 1
CALL_CHECK = 2
CALL_NEAREST = 3
CALL_SOONEST = 4

BAD_NUMBERS = -1
HOURS_FULL = -5
CANNOT_BE = -6

NOTHING_WRONG = 0
NO_SUCH_HEIGHT = 1
NO_SAND_LEFT = 2
NO_GAS_LEFT = 3

MOVE_DOWN = 0
MOVE_UP = 2

MOST_HEIGHTS = 4
MOST_HOURS = 6
MOST_SAND = 6
MOST_GAS = 6
MOST_MARK_TOLD = 200
MOST_WIND_TOLD = 18

MARK_ADDED = 100
WIND_ADDED = 9


class Balloon:
    """Where the balloon is behind some hours of a flight, what it has left, and the moves that led there."""

    def __init__(self, east, north, height, sand, gas, moves):
        self.east = east
        self.north = north
        self.height = height
        self.sand = sand
        self.gas = gas
        self.moves = moves

    def wrong_with(self, move, heights):
        """What would be wrong with the move, or NOTHING_WRONG."""
        # The height is asked ahead of sand and gas: of several wrongs the first counts.
        if move == MOVE_UP:
            if self.height + 1 >= heights:
                return NO_SUCH_HEIGHT
            if self.sand == 0:
                return NO_SAND_LEFT
        if move == MOVE_DOWN:
            if self.height == 0:
                return NO_SUCH_HEIGHT
            if self.gas == 0:
                return NO_GAS_LEFT
        return NOTHING_WRONG

    def flown_on(self, move, winds):
        """The balloon an hour later, by a move with which nothing is wrong."""
        # Several flights go on from one balloon, so each gets one of its own.
        height = self.height
        sand = self.sand
        gas = self.gas
        if move == MOVE_UP:
            height = height + 1
            sand = sand - 1
        if move == MOVE_DOWN:
            height = height - 1
            gas = gas - 1
        wind = winds[height]
        return Balloon(self.east + wind[0], self.north + wind[1], height, sand, gas, self.moves + [move])


class Sky:
    """What is told of one sky: its heights, sand, gas, mark, and the winds of its hours."""

    def __init__(self):
        self.heights = 1
        self.sand = 0
        self.gas = 0
        self.mark_east = 0
        self.mark_north = 0
        self.winds_by_hour = []

    def begins(self, heights, sand, gas, east, north):
        """Tell the sky anew, with no hours."""
        if heights < 1 or heights > MOST_HEIGHTS:
            return [BAD_NUMBERS]
        if sand > MOST_SAND or gas > MOST_GAS:
            return [BAD_NUMBERS]
        if has_above([east, north], MOST_MARK_TOLD):
            return [BAD_NUMBERS]
        self.heights = heights
        self.sand = sand
        self.gas = gas
        self.mark_east = east - MARK_ADDED
        self.mark_north = north - MARK_ADDED
        self.winds_by_hour = []
        return [0]

    def hour(self, winds):
        """Tell the winds of one more hour; the answer is the hour's number."""
        if len(winds) != 2 * self.heights or has_above(winds, MOST_WIND_TOLD):
            return [BAD_NUMBERS]
        number = len(self.winds_by_hour)
        if number == MOST_HOURS:
            return [HOURS_FULL]
        self.winds_by_hour.append(winds_as_pairs(winds))
        return [number]

    def check(self, moves):
        """Fly the moves: how far it ends, where, how high, with what left; or what is wrong."""
        if len(moves) > len(self.winds_by_hour) or has_above(moves, MOVE_UP):
            return [BAD_NUMBERS]
        flown = self.balloon_at_first()
        for number, move in enumerate(moves):
            wrong = flown.wrong_with(move, self.heights)
            if wrong != NOTHING_WRONG:
                return [CANNOT_BE, number, wrong]
            flown = flown.flown_on(move, self.winds_by_hour[number])
        return [self.far_from_mark(flown), flown.east, flown.north, flown.height, flown.sand, flown.gas]

    def nearest(self, hours):
        """How far the nearest landing of so many hours is, its sand left, how many are as good, the earliest."""
        if hours > len(self.winds_by_hour):
            return [BAD_NUMBERS]
        best = self.nearest_landings(hours)
        return [self.far_from_mark(best[0])] + told_of(best)

    def soonest(self):
        """In how few hours one can land on the mark, the sand left then, how many are as good, the earliest."""
        for hours in range(len(self.winds_by_hour) + 1):
            best = self.nearest_landings(hours)
            if self.far_from_mark(best[0]) == 0:
                return [hours] + told_of(best)
        return [CANNOT_BE]

    def reach(self, hours):
        """How many places one can land at behind just so many hours, then these in their order."""
        if hours > len(self.winds_by_hour):
            return [BAD_NUMBERS]
        places = sorted(set([(landed.east, landed.north) for landed in self.landings(hours)]))
        answer = [len(places)]
        for place in places:
            answer.extend([place[0], place[1]])
        return answer

    def nearest_landings(self, hours):
        """The balloons of all flights that are as good as the nearest landing, the earliest flight's first."""
        # There is always one: a balloon may stay in height 0.
        landed = self.landings(hours)
        least_far = min([self.far_from_mark(balloon) for balloon in landed])
        near = [balloon for balloon in landed if self.far_from_mark(balloon) == least_far]
        most_sand = max([balloon.sand for balloon in near])
        return [balloon for balloon in near if balloon.sand == most_sand]

    def landings(self, hours):
        """The balloons of all flights of so many hours that land, the earlier flights' first."""
        flown = [self.balloon_at_first()]
        for number in range(hours):
            flown = all_flown_on(flown, self.heights, self.winds_by_hour[number])
        return [balloon for balloon in flown if balloon.height == 0]

    def balloon_at_first(self):
        """The balloon ahead of the first hour."""
        return Balloon(0, 0, 0, self.sand, self.gas, [])

    def far_from_mark(self, balloon):
        """The square of the distance, so that it stays a whole number."""
        aside = balloon.east - self.mark_east
        along = balloon.north - self.mark_north
        return aside * aside + along * along


def all_flown_on(balloons, heights, winds):
    """The balloons an hour later, by every move with which nothing is wrong."""
    later = []
    for balloon in balloons:
        # The lower move first keeps the earlier flights ahead.
        for move in range(MOVE_DOWN, MOVE_UP + 1):
            if balloon.wrong_with(move, heights) == NOTHING_WRONG:
                later.append(balloon.flown_on(move, winds))
    return later


def told_of(best):
    """Of landings that are as good: the sand left, how many there are, the first one's moves."""
    return [best[0].sand, len(best)] + best[0].moves


def has_above(numbers, most):
    """Whether one of the numbers is above the most that may be told."""
    for number in numbers:
        if number > most:
            return True
    return False


def winds_as_pairs(winds):
    """For each height the wind's east and north, without what was added to tell them."""
    return [(winds[k] - WIND_ADDED, winds[k + 1] - WIND_ADDED) for k in range(0, len(winds), 2)]


def end_of_call(calls, start):
    """Where the call that begins at start is over."""
    number = calls[start]
    if number == CALL_BEGINS:
        return start + 6
    if number == CALL_HOUR or number == CALL_CHECK:
        return start + 2 + calls[start + 1]
    if number == CALL_SOONEST:
        return start + 1
    # nearest and reach are left, both with their hours alone.
    return start + 2


def answer_to(sky, call):
    """What the sky answers to one call, which stands in a list of its own."""
    if call[0] == CALL_BEGINS:
        return sky.begins(call[1], call[2], call[3], call[4], call[5])
    if call[0] == CALL_HOUR:
        return sky.hour(call[2:])
    if call[0] == CALL_CHECK:
        return sky.check(call[2:])
    if call[0] == CALL_NEAREST:
        return sky.nearest(call[1])
    if call[0] == CALL_SOONEST:
        return sky.soonest()
    return sky.reach(call[1])


def answers(calls):
    """For each call of the line, in order: how many numbers are answered, then these."""
    sky = Sky()
    answered = []
    start = 0
    while start < len(calls):
        end = end_of_call(calls, start)
        answer = answer_to(sky, calls[start:end])
        answered.append(len(answer))
        answered.extend(answer)
        start = end
    return answered
