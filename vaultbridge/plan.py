"""A plan: at which heights transfers can pass a limit."""


def plan(limit, window, units):
    """The heights at which transfers with these units can pass, one after the other; None for those that never can."""
    heights = []
    passed = []
    oldest = 0
    inside = 0
    height = 0
    for many in units:
        if many > limit:
            heights.append(None)
            continue
        # the oldest ones leave the window, until it has room; their heights do not fall, and so this one does not
        while inside + many > limit:
            height = passed[oldest][0] + window
            inside -= passed[oldest][1]
            oldest += 1
        inside += many
        passed.append((height, many))
        heights.append(height)
    return heights
