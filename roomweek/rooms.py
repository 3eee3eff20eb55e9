"""Wishes for hours, pairs (start, stop), shared out among as few rooms as there can be."""

# At the same hour an end stands ahead of a begin, since the hour of the end is no longer wished for.
END = 0
BEGIN = 1


# A new room is taken only where every room so far is in use: so there are never more than the crowd needs.
def shared_out(wishes):
    rooms = [0] * len(wishes)
    idle = []
    known = 0
    for change in changes(wishes):
        place = change[2]
        if change[1] == END:
            idle.append(rooms[place])
        elif idle:
            rooms[place] = idle.pop()
        else:
            rooms[place] = known
            known += 1
    return rooms


def crowd(wishes):
    if not wishes:
        return None
    hour = busiest(wishes)
    return (hour, [place for place in range(len(wishes)) if is_for(wishes[place], hour)])


# Wishes grow more only where one begins, so no other hour need be looked at.
def busiest(wishes):
    hour = wishes[0][0]
    most = 0
    count = 0
    for change in changes(wishes):
        if change[1] == END:
            count -= 1
        else:
            count += 1
        if count > most:
            most = count
            hour = change[0]
    return hour


def is_for(wish, hour):
    return wish[0] <= hour and hour < wish[1]


# A pair without an hour would end ahead of its begin; it takes up no room, so it brings no change.
def changes(wishes):
    places = [place for place in range(len(wishes)) if wishes[place][0] < wishes[place][1]]
    begins = [(wishes[place][0], BEGIN, place) for place in places]
    ends = [(wishes[place][1], END, place) for place in places]
    return sorted(begins + ends)
