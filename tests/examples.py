"""Runs examples as the document writes them: a line behind >>>, below it its value or its error."""


def shown_error(error):
    """The text by which an example tells an error with its fields."""
    fields = ", ".join(f"{name}={value!r}" for name, value in vars(error).items())
    return f"raises {type(error).__name__}({fields})"


def outcome(line, names):
    """The text of the value of a line or of the error that it raises, None for a statement."""
    try:
        compiled = compile(line, "example", "eval")
    except SyntaxError:
        exec(line, names)
        return None
    try:
        return repr(eval(compiled, names))
    except ValueError as error:
        return shown_error(error)


def check_examples(case, text):
    """Check all examples in a text in the test case."""
    names = {}
    lines = text.strip().splitlines()
    checked = 0
    for k, line in enumerate(lines):
        if line.startswith(">>> "):
            found = outcome(line[4:], names)
            if found is not None:
                case.assertEqual(found, lines[k + 1], line)
                checked += 1
    case.assertGreater(checked, 0)
