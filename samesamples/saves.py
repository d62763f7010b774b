"""What the save of an engine is: the tuple that its text shows."""

from samesamples.deedkinds import is_deed
from samesamples.enginekinds import are_ears, are_fronts, is_hand, is_rising, is_size
from samesamples.histories import MOST_ENTRIES, is_entries
from samesamples.kinds import CHANNELS, LAST, is_given, is_name, is_number
from samesamples.projectkinds import is_fresh, is_let


def is_saved(thing):
    """Whether thing has the form of a save; whether its places are sure is not looked at."""
    if not isinstance(thing, tuple) or len(thing) != 10:
        return False
    project, entries, undone, ears, given, shut, heard, sealed, fronts, busy = thing
    if not is_let(project) or not is_fresh(project) or not is_entries(entries) or not _are_undone(undone, entries):
        return False
    if not are_ears(ears) or not _are_given(given) or not _are_shut(shut) or not isinstance(sealed, bool):
        return False
    if not are_fronts(fronts) or not all(1 <= front <= LAST for _, front in fronts):
        return False
    worked = dict(fronts)
    if not is_number(heard) or not all([heard <= worked.get(ear, 0) for ear in ears]):
        return False
    return _are_busy(busy, worked)


def ends_of(fronts, busy):
    """By name where what is worked out ends: slips that are not struck count as worked."""
    ends = dict(fronts)
    for _, name, low, many, struck in busy:
        if not struck:
            ends[name] = low + many
    return ends


def _are_undone(thing, entries):
    """Whether thing is a tuple of deeds that leaves room for the entries that can be undone."""
    if not isinstance(thing, tuple) or not all(is_deed(deed) for deed in thing):
        return False
    return len(thing) + len([entry for entry in entries if entry[1] is None]) <= MOST_ENTRIES


def _are_given(thing):
    return is_given(thing) and all(len(sound) <= LAST for sound in thing)


def _are_shut(thing):
    return isinstance(thing, tuple) and len(thing) == CHANNELS and all(isinstance(one, bool) for one in thing)


def _are_busy(thing, worked):
    """Whether thing is a tuple of slips, hands rising; worked tells the fronts by name."""
    if not isinstance(thing, tuple) or not all(_is_slip(one) for one in thing):
        return False
    taken = [name for _, name, _, _, struck in thing if not struck]
    if not is_rising([one[0] for one in thing]) or len(set(taken)) < len(taken):
        return False
    return all([struck or worked.get(name, 0) == low for _, name, low, _, struck in thing])


def _is_slip(thing):
    """Whether thing is a quintuple (hand, name, low, many, struck)."""
    if not isinstance(thing, tuple) or len(thing) != 5:
        return False
    hand, name, low, many, struck = thing
    if not is_hand(hand) or not is_name(name) or not is_number(low) or not is_size(many):
        return False
    return low + many <= LAST and isinstance(struck, bool)
