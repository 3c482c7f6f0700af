"""Places along a quay; rows are (first metre, length) in the order of the first metres."""


def first_place(rows, length, gap, quay):
    # Only nought and the metre a gap behind each berth can be the least:
    # from any other fitting metre the ship could still be drawn nearer to nought.
    place = 0
    for first, size in rows:
        if place + length + gap <= first:
            return place
        place = first + size + gap
    # The quay's end needs no gap, so none is asked for behind the ship here.
    if place + length <= quay:
        return place
    return None


def longest_free(rows, quay):
    # The gaps count as free, so only the berths themselves bound a stretch.
    longest = 0
    end = 0
    for first, size in rows:
        longest = max(longest, first - end)
        end = first + size
    return max(longest, quay - end)


def moved_up(rows, gap):
    # Where a ship lay before tells only its turn, and the rows come in that order.
    moved = []
    place = 0
    for row in rows:
        size = row[1]
        moved.append((place, size))
        place = place + size + gap
    return moved
