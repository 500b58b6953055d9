"""Lines of well-formed texts, gone through as they stand, and the first that is wrong."""


def first_form(faults):
    """The first of these pairs (which, fault) of a text with a wrong sign, told as an audit; else None."""
    for which, fault in faults:
        if fault is not None:
            return (which, fault[0], fault[1], "form")
    return None


def lines_in(text):
    """The lines of a text, without their line feeds."""
    return text.split("\n")[:-1]


def behind_lines(which, text, why):
    """What is told of the line behind the last one."""
    return (which, len(lines_in(text)) + 1, 1, why)


def names_in(line, between):
    """The pairs (name, sign) of a line of a word, names and perhaps a price, as they stand."""
    word, _, rest = line.partition(" ")
    sign = len(word) + 2
    pairs = []
    # no name is "at", so this is what closes the names of a join
    for name in rest.partition(" at ")[0].split(between):
        pairs.append((name, sign))
        sign += len(name) + len(between)
    return pairs


def first_wrong(which, text, places, why_wrong, between=", ", skipped=0):
    """The first wrong thing of a text's lines; None if there is none.

    In a line a name that is none of the places comes first, then what why_wrong tells of the
    list of its names, a word or None. The first lines, so many as skipped, are let by.
    """
    for at, line in enumerate(lines_in(text)):
        if at >= skipped:
            pairs = names_in(line, between)
            for name, sign in pairs:
                if name not in places:
                    return (which, at + 1, sign, "who")
            why = why_wrong([name for name, _ in pairs])
            if why is not None:
                return (which, at + 1, 1, why)
    return None
