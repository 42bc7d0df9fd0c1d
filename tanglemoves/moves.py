"""Moves: the words that are obtained from a word by one move."""

from tanglemoves.events import CAP, CUP, is_crossing, left, needed, other_crossing


def words_by_moves(word):
    """The words that are obtained from a word by one move, in the order of the moves."""
    words = []
    for index in range(len(word) - 1):
        # No two kinds fit the same first event here, so the order of the kinds never decides.
        replaced = 2
        replacement = pair_replacement(word[index], word[index + 1])
        if replacement is None:
            replaced = 3
            replacement = triple_replacement(word[index:index + 3])
        if replacement is not None:
            words.append(word[:index] + replacement + word[index + replaced:])
    return words


def pair_replacement(first, second):
    """What a move replaces two events by, or None if there is none: all kinds but 5 and 6."""
    replacement = None
    if first[0] == CUP and is_crossing(second[0]):
        replacement = behind_cup(first[1], second[0], second[1])
    elif is_crossing(first[0]) and second[0] == CAP:
        replacement = ahead_of_cap(first[0], first[1], second[1])
    elif cancel(first, second):
        replacement = ()
    if replacement is None:
        replacement = exchanged(first[0], first[1], second[0], second[1])
    return replacement


def cancel(first, second):
    """Whether two events are replaced by nothing: kinds 1 and 4."""
    if is_crossing(first[0]) and is_crossing(second[0]):
        return first[1] == second[1] and first[0] != second[0]
    return first[0] == CUP and second[0] == CAP and abs(first[1] - second[1]) == 1


def behind_cup(cup, kind, strand):
    """What replaces a cup and a crossing: kinds 2, 8 and 9."""
    if strand == cup:
        return ((CUP, cup),)
    if abs(strand - cup) == 1:
        return ((CUP, strand), (other_crossing(kind), cup))
    return None


def ahead_of_cap(kind, strand, cap):
    """What replaces a crossing and a cap: kinds 3, 10 and 11."""
    if strand == cap:
        return ((CAP, cap),)
    if abs(strand - cap) == 1:
        return ((other_crossing(kind), cap), (CAP, strand))
    return None


def exchanged(first, here, second, there):
    """What replaces events of two kinds at two strands if these are disjoint: kind 7."""
    if there + needed(second) <= here:
        return ((second, there), (first, here + left(second) - needed(second)))
    if here + left(first) <= there:
        return ((second, there + needed(first) - left(first)), (first, here))
    return None


def triple_replacement(events):
    """What a move replaces three events by, or None if there is none: kinds 5 and 6."""
    if len(events) < 3:
        return None
    kinds = [kind for kind, strand in events]
    if not all([is_crossing(kind) for kind in kinds]):
        return None
    outer = events[0][1]
    inner = events[1][1]
    if events[2][1] != outer or abs(outer - inner) != 1:
        return None
    if kinds[0] == kinds[2] and kinds[0] != kinds[1]:
        return None
    return ((kinds[2], inner), (kinds[1], outer), (kinds[0], inner))
