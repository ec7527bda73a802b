"""What several test files use."""

from migraproof import errors

PROPERTIES = ("schema", "plain", "version", "database", "migrations", "log")


def read_examples(text):
    """The steps of examples as the document writes them: pairs of the code and the line below it, or None."""
    steps = []
    for line in text.strip().split("\n"):
        if line.startswith(">>> "):
            steps.append((line[4:], None))
        else:
            code, above = steps[-1]
            assert above is None, line
            steps[-1] = (code, line)
    return steps


def raised_by(call, *arguments, **more):
    """The error of the package that the call raises, None if it returns."""
    try:
        call(*arguments, **more)
    except errors.MigrationError as error:
        return error
    return None


def told_of(error):
    """The error as the document writes it, with its attributes in the order of the alphabet."""
    attributes = ", ".join(f"{name}={value!r}" for name, value in sorted(vars(error).items()))
    return f"{error.__class__.__name__}({attributes})"


def raised_text(call, *arguments, **more):
    """The error that the call raises as the document writes it, None if it returns."""
    error = raised_by(call, *arguments, **more)
    return None if error is None else told_of(error)


def check_examples(case, text, names):
    """Runs examples in the namespace `names` and compares what they show, word for word."""
    for code, shown in read_examples(text):
        with case.subTest(code=code):
            if shown is None:
                exec(code, names)
            elif shown.startswith("raises "):
                error = raised_by(eval, code, names)
                case.assertIsNotNone(error, "nothing was raised")
                case.assertEqual("raises " + told_of(error), shown)
            else:
                case.assertEqual(repr(eval(code, names)), shown)


def state(deployment):
    """All that can be seen of a deployment."""
    return tuple(getattr(deployment, name) for name in PROPERTIES) + (len(deployment), list(deployment))
