"""Calls written as the document's examples write them, and their answers one by one."""

from tanglemoves.desk import answers


def as_bytes(lines):
    """A text, with `/` for a newline, as a list of numbers."""
    return [10 if sign == "/" else ord(sign) for sign in lines]


def load_first(lines):
    return load_first_bytes(as_bytes(lines))


def load_second(lines):
    return load_second_bytes(as_bytes(lines))


def load_first_bytes(numbers):
    return [1, len(numbers)] + numbers


def load_second_bytes(numbers):
    return [2, len(numbers)] + numbers


def find_path(moves):
    return [3, moves]


def path_word(index):
    return [4, index]


def common(moves):
    return [5, moves]


def smallest(which, moves):
    return [6, which, moves]


def difference():
    return [7]


def run(*calls):
    """The answer of each call, when all of them are handed in as one list."""
    given = answers([number for call in calls for number in call])
    found = []
    place = 0
    while place < len(given):
        length = given[place]
        found.append(given[place + 1:place + 1 + length])
        place += 1 + length
    if place != len(given) or len(found) != len(calls):
        raise AssertionError("not an answer for each call: %r" % (given,))
    return found


def load(lines):
    """What loading a text answers, the first and the second tangle alike."""
    return load_bytes(as_bytes(lines))


def load_bytes(numbers):
    first, second = run(load_first_bytes(numbers), load_second_bytes(numbers))
    if first != second:
        raise AssertionError("%r is not %r" % (first, second))
    return first


def error(line, code):
    """What a text with an error on a line answers."""
    return [-(100 * line + code + 10)]


def word_of(lines):
    """The word of a text's main tangle, as `over 1/cup 2`."""
    return shown(run(load_first(lines), load_second(lines), find_path(0), path_word(0))[3])


def shown(numbers):
    """A word that was answered, as `over 1/cup 2`."""
    if len(numbers) != 1 + 2 * numbers[0]:
        raise AssertionError("no word: %r" % (numbers,))
    pairs = zip(numbers[1::2], numbers[2::2])
    return "/".join(("over", "under", "cup", "cap")[kind] + " %d" % strand for kind, strand in pairs)


def tangle(top, lines):
    """The text of a tangle with these lines."""
    return "/".join(["tie a %d" % top] + ([lines] if lines else []) + ["end"])


def difference_of(first, second):
    """What difference answers for two texts."""
    return run(load_first(first), load_second(second), difference())[2]


def path_between(first, second, moves):
    """What find_path answers for two texts, and all words of the path."""
    # A path has nine words at most: four moves from each tangle, and the meeting point.
    answer, *words = run(load_first(first), load_second(second), find_path(moves),
                         *[path_word(index) for index in range(10)])[2:]
    count = max(answer[0], 0)
    if any(word[0] >= 0 for word in words[count:]):
        raise AssertionError("words behind the path's end: %r" % (words,))
    return answer, [shown(word) for word in words[:count]]
