"""How the console writes what it answers."""

NOT_UNDERSTOOD = "not understood"


def row_of_numbers(begin, numbers):
    """A row that begins so, with a blank ahead of each number."""
    return begin + "".join([f" {number}" for number in numbers])


def rows_or_none(rows):
    """Rows, parted by new lines; none if there are none."""
    return "\n".join(rows) if rows else "none"


def outcome_shown(outcome):
    """An outcome: refused, gone, or where the packet goes out, and its bytes."""
    return outcome if isinstance(outcome, str) else row_of_numbers(f"{outcome[0]}:", outcome[1])


def layout_shown(layout, broken, end):
    """A layout and the wish that it does not keep; end is how many units there are."""
    return row_of_numbers(f"gap {layout[0]}:", layout[1]) + ", " + broken_shown(broken, end)


def broken_shown(broken, end):
    """The wish that a layout does not keep; right if it keeps them all."""
    if broken is None:
        return "right"
    if broken[0] == "late":
        return f"late: {broken[1]} asks {broken[2]}"
    if broken[0] == "source":
        reader = "the end" if broken[2] == end else f"{broken[2]}"
        return f"source: {reader} reads {broken[3]}"
    # Of these three the two units stand last.
    return f"{broken[0]}: {broken[-2]} and {broken[-1]}"


def clash_shown(beat, thing):
    """Where a flow clashes."""
    if thing[0] == "box":
        return f"clash at {beat}: {thing[1]} box {thing[2]}"
    return f"clash at {beat}: register {thing[1]}"


def over_shown(found):
    """What of a layout does not fit a chip."""
    if found is None:
        return "fits"
    return "not right" if found[0] == "wrong" else f"{found[0]} at {found[1]}"
