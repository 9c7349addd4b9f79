"""The calls on one sky, and what is answered to them."""

CALL_BEGINS = 0
CALL_HOUR = 1
CALL_CHECK = 2

BAD_NUMBERS = -1
HOURS_FULL = -5
CANNOT_BE = -6

NOTHING_WRONG = 0
NO_SUCH_HEIGHT = 1
NO_SAND_LEFT = 2
NO_GAS_LEFT = 3

MOVE_DOWN = 0
MOVE_UP = 2

MOST_HEIGHTS = 4
MOST_HOURS = 6
MOST_SAND = 6
MOST_GAS = 6
MOST_MARK_TOLD = 200
MOST_WIND_TOLD = 18

MARK_ADDED = 100
WIND_ADDED = 9


class CallNotBuilt(NotImplementedError):
    """The list holds a call whose number is none of those built."""


class Balloon:
    """Where the balloon is in a flight, and what it has left."""

    def __init__(self, sand, gas):
        self.east = 0
        self.north = 0
        self.height = 0
        self.sand = sand
        self.gas = gas

    def wrong_with(self, move, heights):
        """What would be wrong with the move, or NOTHING_WRONG."""
        # The height is asked ahead of sand and gas: of several wrongs the first counts.
        if move == MOVE_UP:
            if self.height + 1 >= heights:
                return NO_SUCH_HEIGHT
            if self.sand == 0:
                return NO_SAND_LEFT
        if move == MOVE_DOWN:
            if self.height == 0:
                return NO_SUCH_HEIGHT
            if self.gas == 0:
                return NO_GAS_LEFT
        return NOTHING_WRONG

    def make_move(self, move):
        """Make a move with which nothing is wrong."""
        if move == MOVE_UP:
            self.height = self.height + 1
            self.sand = self.sand - 1
        if move == MOVE_DOWN:
            self.height = self.height - 1
            self.gas = self.gas - 1

    def be_carried(self, winds):
        """Drift for an hour with the wind of the height where the balloon is."""
        wind = winds[self.height]
        self.east = self.east + wind[0]
        self.north = self.north + wind[1]


class Sky:
    """What is told of one sky: its heights, sand, gas, mark, and the winds of its hours."""

    def __init__(self):
        self.heights = 1
        self.sand = 0
        self.gas = 0
        self.mark_east = 0
        self.mark_north = 0
        self.winds_by_hour = []

    def begins(self, heights, sand, gas, east, north):
        """Tell the sky anew, with no hours."""
        if heights < 1 or heights > MOST_HEIGHTS:
            return [BAD_NUMBERS]
        if sand > MOST_SAND or gas > MOST_GAS:
            return [BAD_NUMBERS]
        if has_above([east, north], MOST_MARK_TOLD):
            return [BAD_NUMBERS]
        self.heights = heights
        self.sand = sand
        self.gas = gas
        self.mark_east = east - MARK_ADDED
        self.mark_north = north - MARK_ADDED
        self.winds_by_hour = []
        return [0]

    def hour(self, winds):
        """Tell the winds of one more hour; the answer is the hour's number."""
        if len(winds) != 2 * self.heights or has_above(winds, MOST_WIND_TOLD):
            return [BAD_NUMBERS]
        number = len(self.winds_by_hour)
        if number == MOST_HOURS:
            return [HOURS_FULL]
        self.winds_by_hour.append(winds_as_pairs(winds))
        return [number]

    def check(self, moves):
        """Fly the moves: how far it ends, where, how high, with what left; or what is wrong."""
        if len(moves) > len(self.winds_by_hour) or has_above(moves, MOVE_UP):
            return [BAD_NUMBERS]
        flown = Balloon(self.sand, self.gas)
        for number, move in enumerate(moves):
            wrong = flown.wrong_with(move, self.heights)
            if wrong != NOTHING_WRONG:
                return [CANNOT_BE, number, wrong]
            flown.make_move(move)
            flown.be_carried(self.winds_by_hour[number])
        far = self.far_from_mark(flown.east, flown.north)
        return [far, flown.east, flown.north, flown.height, flown.sand, flown.gas]

    def far_from_mark(self, east, north):
        """The square of the distance, so that it stays a whole number."""
        aside = east - self.mark_east
        along = north - self.mark_north
        return aside * aside + along * along


def has_above(numbers, most):
    """Whether one of the numbers is above the most that may be told."""
    for number in numbers:
        if number > most:
            return True
    return False


def winds_as_pairs(winds):
    """For each height the wind's east and north, without what was added to tell them."""
    return [(winds[k] - WIND_ADDED, winds[k + 1] - WIND_ADDED) for k in range(0, len(winds), 2)]


def end_of_call(calls, start):
    """Where the call that begins at start is over."""
    number = calls[start]
    if number == CALL_BEGINS:
        return start + 6
    if number == CALL_HOUR or number == CALL_CHECK:
        return start + 2 + calls[start + 1]
    raise CallNotBuilt(f"no call is built for the number {number}")


def answer_to(sky, call):
    """What the sky answers to one call, which stands in a list of its own."""
    if call[0] == CALL_BEGINS:
        return sky.begins(call[1], call[2], call[3], call[4], call[5])
    if call[0] == CALL_HOUR:
        return sky.hour(call[2:])
    return sky.check(call[2:])


def answers(calls):
    """For each call of the line, in order: how many numbers are answered, then these."""
    sky = Sky()
    answered = []
    start = 0
    while start < len(calls):
        end = end_of_call(calls, start)
        answer = answer_to(sky, calls[start:end])
        answered.append(len(answer))
        answered.extend(answer)
        start = end
    return answered
