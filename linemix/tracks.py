"""For the package itself: several rows of things laid side by side."""


def _ends_in(track):
    """Return the list of where the things of a track end."""
    ends = []
    end = 0
    for _, number in track:
        end = end + number
        ends.append(end)
    return ends


def side_by_side(tracks, spares):
    """Return a list of tuples (things, number): what lies side by side, and how long.

    A track is a list of tuples (thing, number above 0): things told one behind the other, each as long as its number.
    Where a track has come to its end, its spare stands for it, until the longest one ends, too.
    """
    ends = [_ends_in(track) for track in tracks]
    reached = [0] * len(tracks)
    rows = []
    begin = 0
    for end in sorted({mark for marks in ends for mark in marks}):
        things = tuple([track[at][0] if at < len(track) else spare
                        for track, at, spare in zip(tracks, reached, spares)])
        rows.append((things, end - begin))
        reached = [at + 1 if at < len(marks) and marks[at] == end else at for at, marks in zip(reached, ends)]
        begin = end
    return rows
