"""How far names can go, with some names left alone and nothing more given."""

from samesamples.courses import Course
from samesamples.demands import demand
from samesamples.enginekinds import are_all_names, are_fronts
from samesamples.histories import is_entries
from samesamples.kinds import is_goal
from samesamples.notebooks import NoteBook
from samesamples.sures import is_amounts, lacking_from


def reach_of(project, entries, fronts, still, amounts, goal):
    """The ascending pairs (name, reach): the first sample below goal that is blocked, or goal or the front."""
    demand(is_entries(entries), "entries")
    demand(are_fronts(fronts), "fronts")
    demand(are_all_names(still), "still")
    demand(is_amounts(amounts), "amounts")
    demand(is_goal(goal), "goal")
    return reach_by(Course(project, entries, NoteBook()), dict(fronts), still, amounts, goal)


def reach_by(course, fronts, still, amounts, goal):
    """As reach_of, for a course, with the fronts by name."""
    names = sorted(set(course.names(goal) + list(fronts)))
    # A name that is blocked at a sample is so at all later ones: the first one tells all.
    blocked = {name: fronts.get(name, 0) for name in names if name in still and fronts.get(name, 0) < goal}
    for segment, high in course.below(goal):
        for sample in range(segment.low, high):
            for name in segment.order:
                if name not in blocked and sample >= fronts.get(name, 0):
                    if _is_held_up(course, segment, amounts, blocked, name, sample):
                        blocked[name] = sample
    return tuple([(name, blocked.get(name, max(goal, fronts.get(name, 0)))) for name in names])


def _is_held_up(course, segment, amounts, blocked, name, sample):
    """Whether a name that stands here is a feed that lacks the sample, or reads a blocked place."""
    lacking = lacking_from(segment.boxes[name], amounts)
    if lacking is not None and sample >= lacking:
        return True
    for wire in segment.wires_to(name):
        if wire is not None and wire[0] in blocked and blocked[wire[0]] <= sample - wire[1]:
            if course.stands(wire[0], sample - wire[1]):
                return True
    return False
