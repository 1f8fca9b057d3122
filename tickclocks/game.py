"""One game, its clocks and its timers, and the calls about them."""

BEGINS = 0
FRAME = 1
CLOCK = 2
SPEED = 3
TIMER = 4
STOP = 5
LEFT = 6
NOW = 7
NEXT = 8

# By the number of a call: how many numbers it takes up in the list, its own among them.
WIDTHS = (3, 2, 3, 3, 4, 2, 2, 2, 1, 1)

OUT_OF_BOUNDS = -1
NO_SUCH_CLOCK = -2
NO_SUCH_TIMER = -2
TOO_MANY = -5

FIRST_STEP = 16
FIRST_MOST = 5
FULL_SPEED = 100

HIGHEST_STEP = 1000
HIGHEST_MOST = 50
HIGHEST_PARTS = 100000
HIGHEST_SPEED = 200
HIGHEST_BEHIND = 1000
HIGHEST_AGAIN = 1000
CLOCKS_AT_MOST = 6
TIMERS_AT_MOST = 12
TICKS_AHEAD = 300


class Clock:
    """A clock; hangs_on is the number of another clock, or None for the game."""

    def __init__(self, hangs_on, speed):
        self.hangs_on = hangs_on
        self.speed = speed
        self.ticks = 0
        self.hundredths = 0

    def go_on(self, given):
        """What it hangs on has had so many ticks; answer how many of its own come of them."""
        share = self.hundredths + self.speed * given
        self.hundredths = share % 100
        self.ticks += share // 100
        return share // 100

    def twin(self):
        """Answer a clock that is like this one now and goes on without it."""
        clock = Clock(self.hangs_on, self.speed)
        clock.ticks = self.ticks
        clock.hundredths = self.hundredths
        return clock


def move_clocks(clocks):
    """Let all clocks of a game go on by one of its ticks."""
    # A clock hangs on one with a lower number, so what it hangs on has gone on already.
    moved = []
    for clock in clocks:
        given = 1 if clock.hangs_on is None else moved[clock.hangs_on]
        moved.append(clock.go_on(given))


class Timer:
    """A timer, due at a tick of its clock; again is 0 if it rings only once."""

    def __init__(self, number, clock, due, again):
        self.number = number
        self.clock = clock
        self.due = due
        self.again = again

    def take_dues(self, ticks):
        """Answer at which ticks it was due till its clock had so many; it is due later then, or to be dropped."""
        if self.due > ticks:
            return []
        if self.again == 0:
            return [self.due]
        dues = []
        while self.due <= ticks:
            dues.append(self.due)
            self.due += self.again
        return dues

    def first_ring(self, ahead):
        """Answer in how many ticks of the game it rings first, or None; ahead is what foresee_clocks answers."""
        for ticks, had in enumerate(ahead, start=1):
            if had[self.clock] >= self.due:
                return ticks
        return None


class Game:
    """The state that the calls of one list share."""

    def __init__(self):
        self.restart(FIRST_STEP, FIRST_MOST)

    def restart(self, step, most):
        self.step = step
        self.most = most
        self.left_over = 0
        self.ticks = 0
        self.lost = 0
        self.clocks = [Clock(None, FULL_SPEED)]
        self.timers = []
        self.timers_given = 0

    def has_clock(self, number):
        return number < len(self.clocks)

    def find_timer(self, number):
        """Answer the timer of this number, or None if it is not there (any more)."""
        for timer in self.timers:
            if timer.number == number:
                return timer
        return None

    def take_parts(self, parts):
        """Put a frame's parts to what is left over; answer how many ticks the frame has."""
        together = self.left_over + parts
        self.left_over = together % self.step
        wanted = together // self.step
        ticks = min(wanted, self.most)
        self.lost += wanted - ticks
        return ticks

    def foresee_clocks(self):
        """Answer, for each of the game's next ticks, how many ticks each clock will have had by then."""
        # Twins go on in the clocks' place, for nothing of the game may change.
        clocks = [clock.twin() for clock in self.clocks]
        ahead = []
        while len(ahead) < TICKS_AHEAD:
            move_clocks(clocks)
            ahead.append([clock.ticks for clock in clocks])
        return ahead

    def take_rings(self):
        """Answer (clock, due, timer) of all that is due by now, in the order in which it rings."""
        rings = []
        staying = []
        for timer in self.timers:
            clock = self.clocks[timer.clock]
            dues = timer.take_dues(clock.ticks)
            rings.extend([(timer.clock, due, timer.number) for due in dues])
            if timer.again > 0 or len(dues) == 0:
                staying.append(timer)
        self.timers = staying
        return sorted(rings)

    def tick(self):
        """Go on by one tick; answer what rings at it, three numbers each."""
        self.ticks += 1
        move_clocks(self.clocks)
        told = []
        for ring in self.take_rings():
            told.extend([self.ticks, ring[2], ring[1]])
        return told


def begin(game, step, most):
    if step < 1 or step > HIGHEST_STEP or most < 1 or most > HIGHEST_MOST:
        return [OUT_OF_BOUNDS]
    game.restart(step, most)
    return [0]


def pass_frame(game, parts):
    if parts > HIGHEST_PARTS:
        return [OUT_OF_BOUNDS]
    ticks = game.take_parts(parts)
    last = game.ticks + ticks
    told = []
    while game.ticks < last:
        told.extend(game.tick())
    return [ticks, game.left_over, len(told) // 3] + told


def add_clock(game, on, speed):
    if speed > HIGHEST_SPEED:
        return [OUT_OF_BOUNDS]
    if not game.has_clock(on):
        return [NO_SUCH_CLOCK]
    if len(game.clocks) >= CLOCKS_AT_MOST:
        return [TOO_MANY]
    number = len(game.clocks)
    game.clocks.append(Clock(on, speed))
    return [number]


def change_speed(game, number, speed):
    if speed > HIGHEST_SPEED:
        return [OUT_OF_BOUNDS]
    if not game.has_clock(number):
        return [NO_SUCH_CLOCK]
    clock = game.clocks[number]
    clock.speed = speed
    return [0]


def add_timer(game, on, behind, again):
    if behind < 1 or behind > HIGHEST_BEHIND or again > HIGHEST_AGAIN:
        return [OUT_OF_BOUNDS]
    if not game.has_clock(on):
        return [NO_SUCH_CLOCK]
    if len(game.timers) >= TIMERS_AT_MOST:
        return [TOO_MANY]
    number = game.timers_given
    clock = game.clocks[on]
    game.timers.append(Timer(number, on, clock.ticks + behind, again))
    # Counted apart from the timers that there are: a number whose timer is gone is not given again.
    game.timers_given += 1
    return [number]


def stop_timer(game, number):
    if game.find_timer(number) is None:
        return [NO_SUCH_TIMER]
    game.timers = [timer for timer in game.timers if timer.number != number]
    return [len(game.timers)]


def tell_left(game, number):
    timer = game.find_timer(number)
    if timer is None:
        return [NO_SUCH_TIMER]
    clock = game.clocks[timer.clock]
    return [timer.clock, timer.due - clock.ticks, timer.again]


def tell_now(game, number):
    if not game.has_clock(number):
        return [NO_SUCH_CLOCK]
    clock = game.clocks[number]
    above = 0 if clock.hangs_on is None else clock.hangs_on + 1
    return [clock.ticks, clock.hundredths, clock.speed, above]


def tell_next(game):
    ahead = game.foresee_clocks()
    told = []
    # The timers stand in the order of their numbers: new ones come last.
    for timer in game.timers:
        ticks = timer.first_ring(ahead)
        if ticks is not None:
            told.extend([timer.number, ticks])
    return [len(told) // 2] + told


def show(game):
    return [game.ticks, game.left_over, game.lost, len(game.clocks), len(game.timers)]


def answer_call(game, call):
    number = call[0]
    if number == BEGINS:
        return begin(game, call[1], call[2])
    if number == FRAME:
        return pass_frame(game, call[1])
    if number == CLOCK:
        return add_clock(game, call[1], call[2])
    if number == SPEED:
        return change_speed(game, call[1], call[2])
    if number == TIMER:
        return add_timer(game, call[1], call[2], call[3])
    if number == STOP:
        return stop_timer(game, call[1])
    if number == LEFT:
        return tell_left(game, call[1])
    if number == NOW:
        return tell_now(game, call[1])
    if number == NEXT:
        return tell_next(game)
    return show(game)


def answers(calls):
    """Answer a list of calls about one new game: for each how many numbers it answers, then these."""
    game = Game()
    told = []
    start = 0
    while start < len(calls):
        end = start + WIDTHS[calls[start]]
        answer = answer_call(game, calls[start:end])
        told.append(len(answer))
        told.extend(answer)
        start = end
    return told
