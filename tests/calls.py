"""The calls by their names, and what a list of them answers."""

from broughtover import nodes

NUMBERS_HANDED = {0: 1, 1: 2, 2: 3, 3: 1, 4: 1, 5: 1, 6: 3, 7: 1, 8: 1, 9: 0, 10: 1, 11: 1, 12: 1}


def begin(count):
    return [0, count]


def write(cell, value):
    return [1, cell, value]


def ask(node, whom, piece):
    return [2, node, whom, piece]


def take(letter):
    return [3, letter]


def keep(letter):
    return [4, letter]


def lose(letter):
    return [5, letter]


def spoil(letter, place, number):
    return [6, letter, place, number]


def stop(number):
    return [7, number]


def start(number):
    return [8, number]


def letters():
    return [9]


def node(number):
    return [10, number]


def whole(number):
    return [11, number]


def at(moment):
    return [12, moment]


def joined(calls):
    """One list of whole numbers, as it is handed in."""
    numbers = []
    for call in calls:
        numbers.extend(call)
    return numbers


def parted(numbers):
    """The numbers that are given back, a list for each call; counts that don't come out even are a fault."""
    lists = []
    place = 0
    while place < len(numbers):
        behind = place + 1 + numbers[place]
        if numbers[place] < 1 or behind > len(numbers):
            raise AssertionError(f"no such count at {place}: {numbers}")
        lists.append(numbers[place + 1:behind])
        place = behind
    return lists


def answered(*calls):
    """What each of these calls answers, as a list each."""
    lists = parted(nodes.answers(joined(calls)))
    if len(lists) != len(calls):
        raise AssertionError(f"{len(lists)} answers to {len(calls)} calls")
    return lists


def shown(*calls):
    """What the last of these calls answers, as a list."""
    return answered(*calls)[-1]


def told(*calls):
    """The one number that each of these calls answers; a count other than 1 is a fault."""
    lists = answered(*calls)
    if any(len(numbers) != 1 for numbers in lists):
        raise AssertionError(f"not one number for each of {len(calls)} calls: {lists}")
    return [numbers[0] for numbers in lists]


def last(*calls):
    """The one number that the last of these calls answers."""
    return told(*calls)[-1]


def built(*calls):
    """The world that these calls make, to look into."""
    line = nodes.Line()
    for call in calls:
        nodes.answer_call(line, call[0], call[1:])
    return line.world


def node_state(node):
    return (node.runs, node.asked, list(node.upto), list(node.held), list(node.written), list(node.waits))


def letter_state(letter):
    return (letter.kind, letter.receiver, letter.sender, list(letter.numbers), letter.checksum, letter.spoiled)


def state(world):
    """All that a world holds, as it is now."""
    return (
        list(world.writes),
        [node_state(node) for node in world.nodes],
        [letter_state(letter) for letter in world.row],
    )


def row_of(world):
    """Of each letter the kind, to whom, from whom, the numbers, the sum."""
    return [letter_state(letter)[:5] for letter in world.row]
