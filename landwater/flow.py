"""What flows between two places, by the ground and the water of each."""


def level(ground, water):
    """Give the level of a place."""
    return ground + water


def flow(from_ground, from_water, to_ground, to_water):
    """Tell what flows from one place to another; below 0 where it flows the other way."""
    higher = level(from_ground, from_water) - level(to_ground, to_water)
    # Each way is rounded for itself: // of a number below 0 would round away from 0.
    if higher > 0:
        return flow_down(from_water, higher)
    return -flow_down(to_water, -higher)


def flow_down(water, higher):
    """Tell what flows off a place that has so much water and stands so much higher."""
    return min(water // 4, higher // 8)
