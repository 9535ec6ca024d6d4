"""A list of numbers, taken apart into calls and what is handed to each."""

# What each thing behind a call's own number stands for.
FORMS = {
    1: ("size",),
    2: ("state", "colour"),
    3: ("state", "label", "state"),
    4: ("state", "label", "state"),
    5: ("state", "label", "state"),
    6: ("state",),
    7: ("state", "state"),
    8: ("state", "state"),
    9: ("state",),
    10: (),
    11: ("state", "state"),
    12: ("state", "text"),
    13: ("text",),
    14: ("numbering",),
    15: (),
}

# These are rows: how many numbers one has stands before it.
ROWS = ("text", "numbering")


def calls_in(numbers):
    found = []
    at = 0
    while at < len(numbers):
        call = numbers[at]
        at += 1
        given = []
        for kind in FORMS[call]:
            if kind in ROWS:
                end = at + 1 + numbers[at]
                given.append(numbers[at + 1:end])
                at = end
            else:
                given.append(numbers[at])
                at += 1
        found.append((call, given))
    return found
