"""In how many minutes it sets, and what is good before that: with whichever inlets, times as in fronts.py."""

from resindrawn.fronts import last_wet_minutes, shut_in_cells

MOST_WARMTH = 100


def is_told(bed, warmth):
    return len(bed.warmths) > 0 and bed.warmths[0] <= warmth <= bed.warmths[-1]


def setting_minutes(bed, warmth):
    """In how many minutes it sets at a warmth that is told."""
    row = max([k for k in range(len(bed.warmths)) if bed.warmths[k] <= warmth])
    beyond = warmth - bed.warmths[row]
    # just at a row no next one is needed, and the last row has none
    if beyond == 0:
        return bed.minutes[row]
    width = bed.warmths[row + 1] - bed.warmths[row]
    return (bed.minutes[row] * (width - beyond) + bed.minutes[row + 1] * beyond) // width


def is_in_time(bed, times, inlets, warmth):
    if not inlets or not is_told(bed, warmth):
        return False
    return last_wet_minutes(times, inlets) <= setting_minutes(bed, warmth)


def is_good(bed, times, inlets, warmth):
    return is_in_time(bed, times, inlets, warmth) and not shut_in_cells(times, inlets, bed.vent_cells())


def good_warmths(bed, times, inlets):
    """The warmths at which it's good, rising."""
    return [warmth for warmth in range(MOST_WARMTH + 1) if is_good(bed, times, inlets, warmth)]


def good_inlet_sets(bed, times, warmth):
    """The sets of inlets, as bits, by which it's good at a warmth, rising."""
    return [bits for bits in bed.inlet_sets() if is_good(bed, times, bed.cells_of(bits), warmth)]
