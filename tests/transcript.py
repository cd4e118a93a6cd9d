"""Runs examples that are written as the document writes them."""


def told(line, names):
    """What a line of an example gives, as the document writes it; "" for a statement, and for None."""
    try:
        if is_statement(line):
            exec(line, names)
            return ""
        value = eval(line, names)
        return "" if value is None else repr(value)
    except Exception as error:
        attributes = ", ".join(f"{name}={value!r}" for name, value in vars(error).items())
        return f"raises {error.__class__.__name__}({attributes})"


def is_statement(line):
    try:
        compile(line, "example", "eval")
    except SyntaxError:
        return True
    return False


def answers(text, names):
    """Triples of each line of the examples, what it should give, and what it gives; names are kept in the dict."""
    found = []
    for part in text.strip().split(">>> ")[1:]:
        line, _, wanted = part.partition("\n")
        found.append((line, wanted.strip(), told(line, names)))
    return found
