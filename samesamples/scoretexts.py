"""The texts of scores."""

from samesamples.demands import demand
from samesamples.kinds import is_name
from samesamples.scorekinds import is_score
from samesamples.writtens import quotient_word


def show_score(name, score):
    """The text of the score under this name."""
    demand(is_name(name), "name")
    demand(is_score(score), "score")
    tempo, (base, ratios), phrases, voices = score
    rows = [f"score {name}"]
    for beat, pace in tempo:
        rows.append(f"tempo {quotient_word(beat)} {quotient_word(pace)}")
    rows.append(" ".join([f"tuning {base}"] + [quotient_word(ratio) for ratio in ratios]))
    for part, items in phrases:
        rows.append(" ".join([f"phrase {part} :"] + _item_words(items)))
    for part, items in voices:
        rows.append(" ".join([f"voice {part} :"] + _item_words(items)))
    rows.append("end")
    return "".join([row + "\n" for row in rows])


def _item_words(items):
    """The words that show the items."""
    words = []
    for item in items:
        if item[0] == "times":
            words.append("(")
            words.extend(_item_words(item[2]))
            words.append(f")x{item[1]}")
        elif item[0] == "by":
            words.append("[" + quotient_word(item[1]))
            words.extend(_item_words(item[2]))
            words.append("]")
        else:
            words.append(_plain_word(item))
    return words


def _plain_word(item):
    """The one word of an item that has no items of its own."""
    if item[0] == "note":
        return f"{item[1]}.{quotient_word(item[2])}"
    if item[0] == "rest":
        return f"r.{quotient_word(item[1])}"
    if item[0] == "loud":
        return f"!{item[1]}"
    return f"@{item[1]}" if item[2] == 0 else f"@{item[1]}{item[2]:+d}"
