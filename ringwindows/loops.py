"""Rules as links between places, and the loops of links that exclude a total.

The height of a place is the sum of the counts before it; once round the ring, the total is
added. So for a given total each rule only bounds the difference of two heights. It is a link
(start, end, gain, turns, label), which says

    height of end >= height of start + gain - turns * total,

where turns tells how often the way from start to end passes the border before place 0
(negative if backward). If links form a loop, the heights cancel out: turns * total >= gain
must hold for the sums over the loop. A total is possible exactly if it holds for all loops.
"""


def links_of(n, rules):
    """Returns the list of all links: that no count is negative, each least, and each most."""
    links = [(place, (place + 1) % n, 0, (place + 1) // n, None) for place in range(n)]
    for index, (first, size, least, most) in enumerate(rules):
        end = (first + size) % n
        turns = (first + size) // n
        links.append((first, end, least, turns, (index, "least")))
        if most is not None:
            links.append((end, first, -most, -turns, (index, "most")))
    return links


def raised(links, total, heights, walks):
    """Returns the heights, and the walks that lead to them, after one more link each."""
    higher = list(heights)
    longer = list(walks)
    for link in links:
        start, end, gain, turns, label = link
        height = heights[start] + gain - turns * total
        if height > higher[end]:
            higher[end] = height
            longer[end] = walks[start] + (link,)
    return higher, longer


def first_loop(walk):
    """Returns the part of the walk that first comes back to a place where the walk was."""
    starts = []
    for link in walk:
        starts.append(link[0])
        if link[1] in starts:
            return walk[starts.index(link[1]):len(starts)]
    return ()


def settle(n, links, total):
    """Returns (heights, None) if the total is possible, otherwise (None, loop) with a loop that excludes it."""
    heights = [0] * n
    walks = [()] * n
    for step in range(n):
        higher, walks = raised(links, total, heights, walks)
        if higher == heights:
            return heights, None
        heights = higher
    # A walk of n links is here only if it is better than all shorter ones. It visits a place
    # twice, and without the loop between them it would be shorter: so the loop has a gain.
    return None, first_loop(max(walks, key=len))


def counts_of(heights, total):
    """Returns the filling with these heights and this total."""
    ends = heights[1:] + [heights[0] + total]
    return tuple([end - start for start, end in zip(heights, ends)])


def heights_of(filling):
    """Returns the heights of the filling, with 0 at place 0."""
    return [sum(filling[:place]) for place in range(len(filling))]


def turns_of(loop):
    """Returns how often the loop goes round the ring."""
    return sum([link[3] for link in loop])


def labelled(loop, side):
    """Returns the sorted tuple of the indexes of the rules whose least or most is a link of the loop."""
    labels = [link[4] for link in loop if link[4] is not None]
    return tuple(sorted([index for index, name in labels if name == side]))


def reason_of(loop):
    """Returns the reason that consists of the rules of the loop."""
    return (labelled(loop, "least"), labelled(loop, "most"))
