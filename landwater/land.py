"""The board: land with water on it, row by row, and the calls on it."""

from landwater.flow import flow, flows_among, level

# The refusals, as the document numbers them.
NOT_DONE = -11
NOT_ALLOWED = -22
NO_ROOM = -28

WAITS = 0
DONE = 2

LARGEST_SIDE = 64
# 2^30: no ground is higher, and no more water ever falls.
MOST = 1073741824
# 2^40
LAST_SWEEP = 1099511627776


def is_side(number):
    """Tell if a land may be so wide or so high."""
    return 1 <= number <= LARGEST_SIDE


class Land:
    """One board. Until wl_start is answered 0 it has no place."""

    def __init__(self):
        self.lay(0, 0, [], [])

    def lay(self, width, height, ground, water):
        """Make the board new; the lists are copied, since they are the caller's own."""
        self.sweep = 0
        self.width = width
        self.height = height
        self.fallen = sum(water)
        self.states = [WAITS] * height
        self.ground = list(ground)
        self.rain = [0] * (width * height)
        self.waters = [list(water), [0] * (width * height)]

    def wl_start(self, width, height, ground, water):
        """Make the board new, or refuse and leave it."""
        if not is_side(width) or not is_side(height):
            return NOT_ALLOWED
        if max(ground) > MOST or sum(water) > MOST:
            return NOT_ALLOWED
        self.lay(width, height, ground, water)
        return 0

    def wl_work(self):
        """Do the first row that waits; tell if there was one."""
        if WAITS not in self.states:
            return 0
        self.do_row(self.states.index(WAITS))
        return 1

    def wl_turn(self):
        """Turn the sweep, where all rows are done."""
        if WAITS in self.states:
            return NOT_DONE
        if self.sweep == LAST_SWEEP:
            return NO_ROOM
        self.let_rain_fall()
        self.sweep += 1
        self.states = [WAITS] * self.height
        return 0

    def wl_rain(self, x, y, k):
        """Let k fall on a place when the sweep is turned."""
        if not self.has(x, y):
            return NOT_ALLOWED
        if self.fallen + k > MOST:
            return NO_ROOM
        self.rain[self.place(x, y)] += k
        self.fallen += k
        return 0

    def wl_cell(self, x, y):
        """List a place's ground and its water now, or refuse."""
        if not self.has(x, y):
            return NOT_ALLOWED
        here = self.place(x, y)
        return [self.ground[here], self.water_now()[here]]

    def wl_highest(self):
        """Give the highest level of places that have water now."""
        levels = [level(ground, water) for ground, water in zip(self.ground, self.water_now()) if water > 0]
        return max(levels, default=0)

    def wl_still(self):
        """Tell by 1 that nothing flows anywhere by what is there now, else by 0."""
        now = self.water_now()
        levels = [level(ground, water) for ground, water in zip(self.ground, now)]
        # Places above one another stand a width apart in the lists.
        if flows_among(now, levels, self.width):
            return 0
        # Each row by itself: its last place is not beside the first place of the row below.
        for y in range(self.height):
            first = self.place(0, y)
            behind = first + self.width
            if flows_among(now[first:behind], levels[first:behind], 1):
                return 0
        return 1

    def has(self, x, y):
        """Tell if a place is on the land."""
        return x < self.width and y < self.height

    def water_now(self):
        """Give the water that lies there now."""
        return self.waters[self.sweep % 2]

    def water_coming(self):
        """Give the water of the next sweep, as far as its rows are done."""
        return self.waters[(self.sweep + 1) % 2]

    def place(self, x, y):
        """Tell where a place stands in the lists."""
        return y * self.width + x

    def beside(self, x, y):
        """List the places on the left, right, above and below that are on the board."""
        here = self.place(x, y)
        places = []
        if x > 0:
            places.append(here - 1)
        if x + 1 < self.width:
            places.append(here + 1)
        if y > 0:
            places.append(here - self.width)
        if y + 1 < self.height:
            places.append(here + self.width)
        return places

    def do_row(self, y):
        """Fill a row of the coming water from what is there now."""
        coming = self.water_coming()
        for x in range(self.width):
            coming[self.place(x, y)] = self.with_inflow(x, y)
        self.states[y] = DONE

    def with_inflow(self, x, y):
        """Add to a place's water now what flows in from each place beside it."""
        now = self.water_now()
        here = self.place(x, y)
        total = now[here]
        for there in self.beside(x, y):
            total += flow(self.ground[there], now[there], self.ground[here], now[here])
        return total

    def let_rain_fall(self):
        """Add the rain to the coming water, so that none waits."""
        coming = self.water_coming()
        for here, drops in enumerate(self.rain):
            coming[here] += drops
        self.rain = [0] * len(self.rain)
