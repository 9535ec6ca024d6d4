"""At which states a formula holds."""


def leading_there(system, label, held):
    found = [False] * len(held)
    for s, other, t in system.arcs:
        if other == label and held[t]:
            found[s] = True
    return found


def held_at(system, parts):
    done = []
    for sign, number in parts:
        if sign == "t":
            done.append([True] * len(system.colours))
        elif sign == "c":
            done.append([colour == number for colour in system.colours])
        elif sign == "!":
            done.append([not here for here in done.pop()])
        elif sign == "<":
            done.append(leading_there(system, number, done.pop()))
        else:
            second = done.pop()
            first = done.pop()
            done.append([here and there for here, there in zip(first, second)])
    return done[0]
