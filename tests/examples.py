"""Runs examples as the document writes them."""


def steps_of(text):
    """The pairs of what stands behind `>>> ` and the list of the lines that are told behind it."""
    rows = []
    for line in text.strip("\n").split("\n"):
        if line.startswith(">>> "):
            rows.append((line[4:], []))
        elif line.startswith("... "):
            rows[-1] = (rows[-1][0] + "\n" + line[4:], [])
        else:
            rows[-1][1].append(line)
    return rows


def outcome(source, names):
    """The list of the lines that a step shows."""
    try:
        code = compile(source, "example", "eval")
    except SyntaxError:
        exec(source + "\n", names)
        return []
    try:
        value = eval(code, names)
    except Exception as error:
        told = ", ".join(repr(item) for item in error.args)
        return [f"raises {error.__class__.__name__}({told})"]
    return [] if value is None else [repr(value)]


def run_examples(case, text):
    """Run an example; each step shows exactly what stands behind it."""
    names = {}
    for source, told in steps_of(text):
        case.assertEqual(outcome(source, names), told, source)
