"""What flows between two places, by the ground and the water of each."""

# A place gives up no more than a quarter of its water, and an eighth of how much higher it stands. Both are
# rounded down, so nothing flows off less water than 4, or to a place less than 8 lower.
WATER_SHARE = 4
HEIGHT_SHARE = 8


def level(ground, water):
    """Give the level of a place."""
    return ground + water


def flow(from_ground, from_water, to_ground, to_water):
    """Tell what flows from one place to another; below 0 where it flows the other way."""
    higher = level(from_ground, from_water) - level(to_ground, to_water)
    # Each way is rounded for itself: // of a number below 0 would round away from 0.
    if higher > 0:
        return flow_down(from_water, higher)
    return -flow_down(to_water, -higher)


def flow_down(water, higher):
    """Tell what flows off a place that has so much water and stands so much higher."""
    return min(water // WATER_SHARE, higher // HEIGHT_SHARE)


def flows_among(waters, levels, apart):
    """Tell if something flows between any two places that stand so far apart in the lists."""
    for water, here, other_water, there in zip(waters, levels, waters[apart:], levels[apart:]):
        # That something flows is seen without reckoning how much, since this is asked of all the land at once.
        if here - there >= HEIGHT_SHARE and water >= WATER_SHARE:
            return True
        if there - here >= HEIGHT_SHARE and other_water >= WATER_SHARE:
            return True
    return False
