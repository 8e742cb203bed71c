"""Runs examples as the document writes them: a row `>>> ..`, and below it what comes."""

PROMPT = ">>> "
RAISES = "raises "


def rows_of(text):
    """The pairs (source, told) of the examples; told is None where no row stands below."""
    lines = [line for line in text.splitlines() if line.strip()]
    rows = []
    for line in lines:
        if line.startswith(PROMPT):
            rows.append([line[len(PROMPT):], None])
        else:
            rows[-1][1] = line
    return [tuple(row) for row in rows]


def is_expression(source):
    try:
        compile(source, "example", "eval")
    except SyntaxError:
        return False
    return True


def failure_of(source, told, names):
    """None if the example holds in names, otherwise a text that says what came."""
    if told is None:
        exec(source, names)
        return None
    if told.startswith(RAISES):
        return failure_of_raise(source, eval(told[len(RAISES):], names), names)
    if not is_expression(source):
        return f"{source}: no value, but {told} is told"
    came = repr(eval(source, names))
    return None if came == told else f"{source}: {came}, not {told}"


def failure_of_raise(source, wanted, names):
    try:
        came = eval(source, names)
    except ValueError as error:
        if type(error) is type(wanted) and vars(error) == vars(wanted):
            return None
        return f"{source}: {type(error).__name__} with {vars(error)}"
    return f"{source}: {came!r}, but an error is told"


def failures_of(text, names):
    """The examples of a text that do not hold; names are changed by their assignments."""
    found = [failure_of(source, told, names) for source, told in rows_of(text)]
    return [failure for failure in found if failure is not None]
