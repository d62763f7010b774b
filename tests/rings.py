"""Names, arrows and wires for the tests, drawn ones too, and all their rings and ways found by plain search."""

NAMES = ("", "a", "b", "c", "d")


def drawn_names(source, most=5):
    return tuple(sorted(source.sample(("", "a", "b", "c 1", "+hub", "zz", "D"), source.randint(0, most))))


def drawn_arrows(source, names, low=-3, high=6, most=9):
    if not names:
        return ()
    many = source.randint(0, most)
    return tuple((source.choice(names), source.choice(names), source.randint(low, high)) for _ in range(many))


def drawn_roof(source, names):
    return tuple(source.choice((None, source.randint(-9, 9))) for _ in names)


def all_rings(arrows):
    """All rings, each as often as it has places, once from each of its sources on."""
    rings = []
    for place, (source, name, _) in enumerate(arrows):
        paths = [(place,)]
        while paths:
            path = paths.pop()
            end = arrows[path[-1]][1]
            seen = [arrows[one][0] for one in path]
            if end == source:
                rings.append(path)
            elif end not in seen:
                paths += [path + (later,) for later, arrow in enumerate(arrows) if arrow[0] == end]
    return rings


def way_sum(arrows, way):
    return sum(arrows[place][2] for place in way)


def reached(arrows, start):
    """All names to which a way leads from start."""
    found = {start}
    while True:
        more = {arrow[1] for arrow in arrows if arrow[0] in found} - found
        if not more:
            return found
        found |= more


def plain_heights(names, arrows, roof):
    """The greatest heights, by letting them fall as long as any does; None if they fall without an end."""
    heights = dict(zip(names, roof))
    for _ in range(len(names) * (len(arrows) + 1) + 1):
        fell = False
        for source, name, much in arrows:
            if heights[source] is not None and (heights[name] is None or heights[name] > heights[source] + much):
                heights[name] = heights[source] + much
                fell = True
        if not fell:
            return tuple(heights[name] for name in names)
    return None


def meets(names, arrows, roof, heights):
    """Whether the heights meet roof and arrows, by the document's words, None being endless."""
    by_name = dict(zip(names, heights))
    endless = float("inf")

    def value(height):
        return endless if height is None else height

    if any(value(height) > value(top) for height, top in zip(heights, roof)):
        return False
    return all(value(by_name[name]) <= value(by_name[source]) + much for source, name, much in arrows)
