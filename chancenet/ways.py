"""Ways between things, and whether names shut them.

Things are told by their places in the net; a way is a list of these, and
names are a dict that has the places of the things named.
"""


def neighbours(things, place):
    near = list(things[place].sources)
    for other, thing in enumerate(things):
        if place in thing.sources:
            near.append(other)
    return near


def grown_from(things, place):
    # Once through is enough: what a thing comes of is always told before it.
    grown = {place: True}
    for other, thing in enumerate(things):
        if any([source in grown for source in thing.sources]):
            grown[other] = True
    return grown


def is_told_of(things, names, place):
    return any([grown in names for grown in grown_from(things, place)])


def shuts(things, names, ahead, middle, behind):
    sources = things[middle].sources
    if ahead in sources and behind in sources:
        return not is_told_of(things, names, middle)
    return middle in names


def can_go_on(things, names, way, step):
    if step in way:
        return False
    # The first thing of a way is an end, and an end shuts nothing.
    return len(way) == 1 or not shuts(things, names, way[-2], way[-1], step)


def has_open_way(things, names, start, end):
    # A way that is shut stays so however it goes on, so only open ones are kept.
    ways = [[start]]
    while len(ways) > 0:
        way = ways.pop()
        steps = [step for step in neighbours(things, way[-1]) if can_go_on(things, names, way, step)]
        if end in steps:
            return True
        ways.extend([way + [step] for step in steps])
    return False
