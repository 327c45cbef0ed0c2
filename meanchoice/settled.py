"""Choosings that settle: no other way of one place alone is worth more."""

from meanchoice.sheets import need_choosing, need_sheet, weight_kept


def with_way_at(choosing, place, way):
    """The choosing with this way at the place, the others as they are."""
    return choosing[:place] + (way,) + choosing[place + 1:]


def one_step(sheet, choosing):
    """The choosing with the least place that is not settled put to its least best way; None where all are settled."""
    ways, wishes = sheet
    for place, many in enumerate(ways):
        steps = [with_way_at(choosing, place, way) for way in range(many)]
        worths = [weight_kept(wishes, step) for step in steps]
        if worths[choosing[place]] < max(worths):
            return steps[worths.index(max(worths))]
    return None


def is_settled(sheet, choosing):
    """Whether no other way of one place, the others as they are, is worth more."""
    need_sheet(sheet)
    need_choosing(sheet, choosing)
    return one_step(sheet, choosing) is None


def settle(sheet, choosing):
    """What comes of the choosing where the least place that is not settled takes its best way, again and again."""
    need_sheet(sheet)
    need_choosing(sheet, choosing)
    # What is told is a new tuple, not the one that was handed in.
    now = tuple(list(choosing))
    later = one_step(sheet, now)
    # Each step is worth more than the one ahead of it, so the steps come to an end.
    while later is not None:
        now = later
        later = one_step(sheet, now)
    return now
