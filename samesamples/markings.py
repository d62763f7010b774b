"""Marks on places: by name a list that tells for each sample whether the place is marked."""


def no_marks(names, goal):
    """Marks for these names below goal, none of them set."""
    return {name: [False] * goal for name in names}


def places_read(segment, name, sample, stood):
    """The places that the inlets read at the sample, None for nothing; stood tells where names stand."""
    places = []
    for wire in segment.wires_to(name):
        at = -1 if wire is None else sample - wire[1]
        places.append((wire[0], at) if at >= 0 and stood[wire[0]][at] else None)
    return places


def spread(course, marks, goal):
    """Mark all places below goal that hang on marked ones."""
    stood = course.presence(goal)
    for segment, high in course.below(goal):
        for sample in range(segment.low, high):
            for name in segment.order:
                if not marks[name][sample]:
                    neighbours = _neighbours(segment, name, sample, stood)
                    marks[name][sample] = any([marks[source][at] for source, at in neighbours])


def gather(course, marks, goal):
    """Mark all places below goal on which marked ones hang."""
    stood = course.presence(goal)
    for segment, high in reversed(course.below(goal)):
        for sample in range(high - 1, segment.low - 1, -1):
            for name in segment.order[::-1]:
                if marks[name][sample]:
                    for source, at in _neighbours(segment, name, sample, stood):
                        marks[source][at] = True


def places_of(marks):
    """The marked places, ascending."""
    return tuple([(name, sample) for name in sorted(marks) for sample, marked in enumerate(marks[name]) if marked])


def _neighbours(segment, name, sample, stood):
    """The places next to one that stands: those that its inlets read, and its own ahead if it is carried."""
    places = [place for place in places_read(segment, name, sample, stood) if place is not None]
    if segment.carries(name, sample):
        places.append((name, sample - 1))
    return places
