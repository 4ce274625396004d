"""Examples as they stand in the document, and the check of them."""

from rules import same


def example_lines(text):
    """Pairs of what stands behind >>>, and what stands below it, or None."""
    lines = [line.strip() for line in text.split("\n") if line.strip()]
    pairs = []
    for line in lines:
        if line.startswith(">>> "):
            pairs.append([line[4:], None])
        else:
            pairs[-1][1] = line
    return pairs


def shown_error(error):
    values = ", ".join(f"{name}={value!r}" for name, value in vars(error).items())
    return f"raises {type(error).__name__}({values})"


def names_of(*modules):
    """What stands in these modules, to be used by examples."""
    names = {}
    for module in modules:
        names.update(vars(module))
    return names


def check_examples(case, text, names):
    """Each example of the text, all NAMES that are set being kept from one to the next."""
    for code, want in example_lines(text):
        if want is None:
            exec(code, names)
        elif want.startswith("raises "):
            with case.assertRaises((LookupError, ValueError), msg=code) as caught:
                eval(code, names)
            case.assertEqual(shown_error(caught.exception), want, code)
        else:
            got = eval(code, names)
            case.assertTrue(same(got, eval(want, {})), f"{code}\n got: {got!r}\nwant: {want}")
