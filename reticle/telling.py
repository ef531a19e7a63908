"""Telling in lines what a comparison found."""


def match_lines(match):
    """The list of the lines of a match."""
    nets, devices = match
    lines = [f"net {net} {partner}" for net, partner in enumerate(nets)]
    lines.extend([f"device {index} {partner}" for index, partner in enumerate(devices)])
    return lines


def difference_lines(difference):
    """The list of the lines of a difference."""
    lines = []
    # What is left to tell, the next one last: pairs of the spaces of a line and of the tuple that begins with its
    # words. Differences can be nested deeply.
    left = [("", difference)]
    while left:
        spaces, part = left.pop()
        lines.append(spaces + " ".join([str(word) for word in part[:3]]))
        if part[0] == "choose":
            for net, inner in reversed(part[3]):
                left.append((spaces + "  ", inner))
                left.append((spaces, ("case", net)))
    return lines


def tell(answer):
    """The text of an answer of compare."""
    word, shown = answer
    lines = match_lines(shown) if word == "same" else difference_lines(shown)
    return "\n".join([word, *lines])
