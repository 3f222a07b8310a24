"""What a cut may leave of a filling and of the writes that are pending on it."""


def behind(filling, writes):
    """Return the filling that these writes, all done in their order, make of a filling."""
    contents = list(filling)
    for block, content in writes:
        contents[block] = content
    return tuple(contents)


def choices_of(disk, settled, writes, torn):
    """Return for each block the ascending list of the contents that a cut may leave in it."""
    found = [[content] for content in settled]
    for block, content in writes:
        if torn is True:
            found[block] = list(range(disk.contents))
        else:
            found[block].append(content)
    return [sorted(set(choice)) for choice in found]


def behind_all(filling, groups):
    """Return the filling behind all groups of writes."""
    return behind(filling, [write for group in groups for write in group])


def is_left(choices, filling):
    """Tell whether a filling has one of its choices in each block."""
    return all([content in choice for content, choice in zip(filling, choices)])


def number_left(choices):
    """Return the number of the fillings that have one of its choices in each block."""
    found = 1
    for choice in choices:
        found = found * len(choice)
    return found


def list_left(choices):
    """Return the ascending list of the fillings that have one of its choices in each block."""
    found = [()]
    for choice in choices:
        found = [begun + (content,) for begun in found for content in choice]
    return found
