"""What rows of calls do to the states that come about, and the least rows that do the same.

A word is a row as the tuple of the indexes of its calls.
"""


def map_of(service, row):
    """Return the map of a row: for each state the state behind the row."""
    return [service.run(row, state)[1] for state in range(len(service))]


def moves_of(service):
    """Return for each call its map."""
    return [[onward for onward, _ in service[name]] for name in service.calls]


def least_words(service):
    """Return for each map, as a tuple, the first of all words that have it; shorter words come first."""
    moves = moves_of(service)
    nothing = tuple(range(len(service)))
    words = {nothing: ()}
    found = [nothing]
    at = 0
    while at < len(found):
        here = found[at]
        for call, move in enumerate(moves):
            onward = tuple([move[state] for state in here])
            if onward not in words:
                # Words are made longer in their own order, so the first one with a map is its least one.
                words[onward] = words[here] + (call,)
                found.append(onward)
        at += 1
    return words


def all_maps(service):
    """Return the ascending list of all maps that some row has."""
    return [list(each) for each in sorted(least_words(service))]


def row_of(names, word):
    """Return the row of a word."""
    return [names[call] for call in word]


def least_row(service, row):
    """Return the first of all rows that do the same as a row."""
    own = tuple(map_of(service, row))
    return row_of(service.calls, least_words(service)[own])


def do_same(service, one, other):
    """Tell whether two rows do the same."""
    return map_of(service, one) == map_of(service, other)


def exchanges(service):
    """Return the closed list of exchanges: the ascending tuples (row, least row)."""
    names, moves = service.calls, moves_of(service)
    words = least_words(service)
    maps = {words[each]: each for each in words}
    told = []
    # The least words are ascending, so these words with one call more are, too.
    for word in maps:
        for call, move in enumerate(moves):
            longer = word + (call,)
            # Parts of least words are least ones, so the two longest parts stand for all.
            if longer not in maps and longer[1:] in maps:
                least = words[tuple([move[state] for state in maps[word]])]
                told.append((row_of(names, longer), row_of(names, least)))
    return told


def exchanged(swaps, row):
    """Return the row with that part exchanged that ends first, None if there is no such part."""
    for end in range(1, len(row) + 1):
        for begin in range(end):
            part = tuple(row[begin:end])
            if part in swaps:
                return row[:begin] + swaps[part] + row[end:]
    return None


def led(service, row):
    """Return the rows that come about if parts of a row are exchanged again and again."""
    service.check(row, 0)
    swaps = {tuple(old): least for old, least in exchanges(service)}
    told = [list(row)]
    onward = exchanged(swaps, told[0])
    while onward is not None:
        told.append(onward)
        onward = exchanged(swaps, onward)
    return told


def settling(service):
    """Return the calls behind which the state is the same, whatever it was; none if there is one state alone."""
    if len(service) == 1:
        return []
    moves = moves_of(service)
    return [name for name, move in zip(service.calls, moves) if move == [move[0]] * len(move)]


def idle(service):
    """Return the calls that change no state."""
    moves = moves_of(service)
    return [name for name, move in zip(service.calls, moves) if move == list(range(len(move)))]
