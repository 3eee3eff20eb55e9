"""The hours that no span has, as runs: pairs of the first hour and the hour behind the last."""

from roomweek.spans import WEEK, is_empty


# The stretch is cut wherever a span sets in or is over. Within a piece every week is like the one before,
# so its first week tells all of them, and weeks without a free hour need not be walked, however many they are.
def free_runs(spans, start, stop):
    coming = sorted([span for span in spans if not is_empty(span)])
    edges = edges_within(coming, start, stop)
    runs = []
    going = []
    begun = 0
    for place in range(len(edges) - 1):
        edge = edges[place]
        while begun < len(coming) and coming[begun][0] <= edge:
            going.append(coming[begun])
            begun += 1
        going = [span for span in going if over_at(span) > edge]
        add_piece(runs, free_in_week(going, edge), edge, edges[place + 1])
    return runs


def edges_within(spans, start, stop):
    hours = [span[0] for span in spans] + [over_at(span) for span in spans]
    return sorted(set([start, stop] + [hour for hour in hours if start < hour and hour < stop]))


def over_at(span):
    return span[1] + WEEK * (span[2] - 1)


# Counted from the given hour on, as if the spans had always been going and never ended.
def free_in_week(spans, hour):
    had = []
    for span in spans:
        first = (span[0] - hour) % WEEK
        behind = first + span[1] - span[0]
        had.append((first, behind))
        had.append((first - WEEK, behind - WEEK))
    runs = []
    reached = 0
    for run in sorted(had):
        add_run(runs, reached, run[0])
        reached = max(reached, run[1])
    add_run(runs, reached, WEEK)
    return runs


def add_piece(runs, free, start, stop):
    if free == [(0, WEEK)]:
        add_run(runs, start, stop)
    elif free:
        for week in range(start, stop, WEEK):
            for run in free:
                add_run(runs, week + run[0], min(week + run[1], stop))


# A run that goes on where the one before ends is the same run: pieces and weeks are cut within gaps too.
def add_run(runs, first, behind):
    if behind <= first:
        return
    if runs and runs[-1][1] == first:
        runs[-1] = (runs[-1][0], behind)
    else:
        runs.append((first, behind))
