"""Words of a line, between signs that stand among them."""


def parted(words, sign):
    """The words ahead of the sign, those between two of them, and those behind the last one, each part in a list."""
    parts = [[]]
    for word in words:
        if word == sign:
            parts.append([])
        else:
            parts[-1].append(word)
    return parts
