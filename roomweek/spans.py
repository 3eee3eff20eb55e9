"""Spans of hours, had again each week: tuples (start, stop, weeks)."""

WEEK = 168


def is_span(span):
    length = span[1] - span[0]
    return span[0] >= 0 and length > 0 and length <= WEEK and span[2] >= 1


# Weeks are reckoned, never walked: a span may have more of them than could be counted through.
def has_hour(span, hour):
    start = span[0]
    stop = span[1]
    weeks = span[2]
    first = max(0, (hour - stop) // WEEK + 1)
    last = min(weeks - 1, (hour - start) // WEEK)
    return first <= last


# Whether two weekly runs of hours overlap depends only on how many weeks one's is ahead of the other's,
# so it is enough that some such number of weeks both overlaps and can come about.
def meet(one, other):
    least = max(1 - other[2], (other[0] - one[1]) // WEEK + 1)
    most = min(one[2] - 1, (other[1] - one[0] - 1) // WEEK)
    return least <= most and not is_empty(one) and not is_empty(other)


# No span is empty, but the reckoning of meet would let bounds without an hour meet what lies around them.
def is_empty(span):
    return span[1] <= span[0] or span[2] < 1
