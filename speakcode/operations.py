"""The operations: the kinds that each takes, and the kind that it gives."""

# eq takes two of one kind, whichever: no kind is called "same".
OPERATIONS = {
    "neg": (("number",), "number"),
    "abs": (("number",), "number"),
    "not": (("truth",), "truth"),
    "len": (("text",), "number"),
    "digits": (("number",), "text"),
    "add": (("number", "number"), "number"),
    "sub": (("number", "number"), "number"),
    "mul": (("number", "number"), "number"),
    "div": (("number", "number"), "number"),
    "mod": (("number", "number"), "number"),
    "min": (("number", "number"), "number"),
    "max": (("number", "number"), "number"),
    "lt": (("number", "number"), "truth"),
    "le": (("number", "number"), "truth"),
    "eq": (("same", "same"), "truth"),
    "and": (("truth", "truth"), "truth"),
    "or": (("truth", "truth"), "truth"),
    "join": (("text", "text"), "text"),
    "first": (("text", "number"), "text"),
    "rest": (("text", "number"), "text"),
    "at": (("text", "number"), "number"),
}


def is_operation(word):
    return word in OPERATIONS


def taken_count(operation):
    return len(OPERATIONS[operation][0])


def takes(operation, kinds):
    if OPERATIONS[operation][0] == ("same", "same"):
        return kinds[0] == kinds[1]
    return kinds == OPERATIONS[operation][0]


def given_kind(operation):
    return OPERATIONS[operation][1]
