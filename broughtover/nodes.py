"""A store, the nodes that it is brought over to piece by piece, and the net between them."""

STORE = 0
CELLS = 12
PIECES = 4
PIECE_CELLS = 3
MOST_WRITES = 9999
HIGHEST = 9999
ROOM = 100
DIVISOR = 10007

ASK_LETTER = 0
ANSWER_LETTER = 1
ANSWER_HEAD = 5
ANSWER_CELL = 3

NO_USE = 0
ANSWERED = 1
GOES_ON = 2
FOUND_SPOILED = 3

NO_SUCH = -1
ALREADY = -2
MIXTURE = -2
STOPPED = -3
SPOILED_BEFORE = -4
NO_MORE_WRITES = -5
NO_WORLD = -9

BEGIN = 0
WRITE = 1
ASK = 2
TAKE = 3
KEEP = 4
LOSE = 5
SPOIL = 6
STOP = 7
START = 8
LETTERS = 9
NODE = 10
WHOLE = 11

# How many numbers stand behind each call's own number, from begin on to at.
HANDED = (1, 2, 3, 1, 1, 1, 3, 1, 1, 0, 1, 1, 1)


class Node:
    """One machine: its disk, and in its memory what it waits for."""

    def __init__(self):
        self.runs = True
        self.asked = 0
        self.upto = [0] * PIECES
        self.held = [0] * CELLS
        self.written = [0] * CELLS
        self.waits = []


class Letter:
    """A letter as it is sent: its sum is that of its numbers."""

    def __init__(self, kind, receiver, sender, numbers):
        self.kind = kind
        self.receiver = receiver
        self.sender = sender
        self.numbers = numbers
        self.checksum = sum_of(numbers)
        self.spoiled = False


class World:
    """The nodes, the row of letters on their way, and the writes there were, cell and value of each."""

    def __init__(self, count):
        self.nodes = [Node() for number in range(count)]
        self.row = []
        self.writes = []


class Line:
    """What one list of calls is made on: there is no world at its beginning."""

    def __init__(self):
        self.world = None


def sum_of(numbers):
    """Gives the sum by which a letter tells whether a number of it has been changed."""
    total = 0
    for weight, number in enumerate(numbers, start=1):
        total = total + weight * number
    return total % DIVISOR


def send(row, letter):
    """Lays a letter behind the others; one that finds no room is lost."""
    if len(row) < ROOM:
        row.append(letter)


def begin(line, count):
    """Makes a world as at first."""
    if count < 2 or count > 4:
        return NO_SUCH
    line.world = World(count)
    return 0


def write(world, cell, value):
    """Writes to the store, and gives the write's number."""
    if cell >= CELLS or value > HIGHEST:
        return NO_SUCH
    store = world.nodes[STORE]
    if not store.runs:
        return STOPPED
    if len(world.writes) >= MOST_WRITES:
        return NO_MORE_WRITES
    world.writes.append((cell, value))
    number = len(world.writes)
    store.held[cell] = value
    store.written[cell] = number
    # The store misses none of its writes, so each of its pieces is up to the last one.
    store.upto = [number] * PIECES
    return number


def ask(world, asker, whom, piece):
    """Has a node ask another one for a piece, and gives the number of the ask."""
    count = len(world.nodes)
    if asker == STORE or asker >= count or whom >= count or piece >= PIECES or asker == whom:
        return NO_SUCH
    node = world.nodes[asker]
    if not node.runs:
        return STOPPED
    node.asked = node.asked + 1
    since = node.upto[piece]
    # It waits even if the letter finds no room: who sends can't tell that it is lost.
    node.waits.append((node.asked, piece, since))
    send(world.row, Letter(ASK_LETTER, whom, asker, [node.asked, piece, since]))
    return node.asked


def cells_behind(node, piece, since):
    """Gives cell, value and write of each of the piece's cells that were written behind since."""
    told = []
    for cell in range(piece * PIECE_CELLS, (piece + 1) * PIECE_CELLS):
        if node.written[cell] > since:
            told.extend([cell, node.held[cell], node.written[cell]])
    return told


def answer_ask(world, letter):
    """Has the node that is asked answer with what it has of the piece."""
    node = world.nodes[letter.receiver]
    piece = letter.numbers[1]
    since = letter.numbers[2]
    told = cells_behind(node, piece, since)
    head = [letter.numbers[0], piece, since, node.upto[piece], len(told) // ANSWER_CELL]
    send(world.row, Letter(ANSWER_LETTER, letter.sender, letter.receiver, head + told))
    return ANSWERED


def accept_answer(node, numbers):
    """Brings a piece of the node further, if it waits for this answer and hasn't come as far already."""
    piece = numbers[1]
    upto = numbers[3]
    wait = (numbers[0], piece, numbers[2])
    if wait not in node.waits:
        return NO_USE
    node.waits.remove(wait)
    if node.upto[piece] >= upto:
        return NO_USE
    for place in range(ANSWER_HEAD, len(numbers), ANSWER_CELL):
        cell = numbers[place]
        node.held[cell] = numbers[place + 1]
        node.written[cell] = numbers[place + 2]
    node.upto[piece] = upto
    return GOES_ON


def hand_over(world, letter):
    """Hands a letter to the node it goes to, and tells what came of it."""
    node = world.nodes[letter.receiver]
    if not node.runs:
        return NO_USE
    if sum_of(letter.numbers) != letter.checksum:
        return FOUND_SPOILED
    if letter.kind == ASK_LETTER:
        return answer_ask(world, letter)
    return accept_answer(node, letter.numbers)


def take(world, position):
    """Takes a letter out of the row, then hands it over: in a full row its answer has room."""
    if position >= len(world.row):
        return NO_SUCH
    letter = world.row.pop(position)
    return hand_over(world, letter)


def keep(world, position):
    """Hands a letter over that lies on, so that it can come again."""
    if position >= len(world.row):
        return NO_SUCH
    return hand_over(world, world.row[position])


def lose(world, position):
    """Takes a letter out of the row for nothing."""
    if position >= len(world.row):
        return NO_SUCH
    world.row.pop(position)
    return 0


def standing_at(letter, place):
    """Gives the number at a place of a letter: its sum stands behind its numbers."""
    if place == len(letter.numbers):
        return letter.checksum
    return letter.numbers[place]


def put_at(letter, place, number):
    """Puts a number at a place of a letter, and leaves the rest of it as it was sent."""
    if place == len(letter.numbers):
        letter.checksum = number
    else:
        letter.numbers[place] = number


def spoil(world, position, place, number):
    """Changes one number of a letter, or its sum, once."""
    if position >= len(world.row):
        return NO_SUCH
    letter = world.row[position]
    if place > len(letter.numbers) or number > HIGHEST:
        return NO_SUCH
    if standing_at(letter, place) == number:
        return ALREADY
    if letter.spoiled:
        return SPOILED_BEFORE
    put_at(letter, place, number)
    letter.spoiled = True
    return 0


def stop(world, number):
    """Stops a node."""
    if number >= len(world.nodes):
        return NO_SUCH
    node = world.nodes[number]
    if not node.runs:
        return ALREADY
    node.runs = False
    return 0


def start(world, number):
    """Has a node run again with what is on its disk: what it waited for is forgotten."""
    if number >= len(world.nodes):
        return NO_SUCH
    node = world.nodes[number]
    if node.runs:
        return ALREADY
    node.runs = True
    node.waits = []
    return 0


def tell_letters(world):
    """Tells the row of letters, each as it stands: a spoiled one shows what it was spoiled to."""
    told = [len(world.row)]
    for letter in world.row:
        told.extend([letter.kind, letter.receiver, letter.sender, len(letter.numbers)])
        told.extend(letter.numbers)
        told.append(letter.checksum)
    return told


def tell_node(world, number):
    """Tells all that a node has on its disk and in its memory."""
    if number >= len(world.nodes):
        return [NO_SUCH]
    node = world.nodes[number]
    told = [1 if node.runs else 0, node.asked]
    told.extend(node.upto)
    for cell in range(CELLS):
        told.extend([node.held[cell], node.written[cell]])
    told.append(len(node.waits))
    for wait in node.waits:
        told.extend(wait)
    return told


def tell_whole(world, number):
    """Tells behind which write the store was as the node has it now."""
    if number >= len(world.nodes):
        return [NO_SUCH]
    node = world.nodes[number]
    least = min(node.upto)
    if max(node.written) > least:
        return [MIXTURE]
    return [least]


def tell_at(world, moment):
    """Tells the values of the store's cells as they were behind a write."""
    if moment > len(world.writes):
        return [NO_SUCH]
    held = [0] * CELLS
    for cell, value in world.writes[:moment]:
        held[cell] = value
    return held


def change_world(world, call, handed):
    """Gives the one number that a call answers which may change the world."""
    if call == WRITE:
        return write(world, handed[0], handed[1])
    if call == ASK:
        return ask(world, handed[0], handed[1], handed[2])
    if call == TAKE:
        return take(world, handed[0])
    if call == KEEP:
        return keep(world, handed[0])
    if call == LOSE:
        return lose(world, handed[0])
    if call == SPOIL:
        return spoil(world, handed[0], handed[1], handed[2])
    if call == STOP:
        return stop(world, handed[0])
    # Of the calls up to start this one alone is left.
    return start(world, handed[0])


def look_at_world(world, call, handed):
    """Gives the numbers that a call answers which changes nothing."""
    if call == LETTERS:
        return tell_letters(world)
    if call == NODE:
        return tell_node(world, handed[0])
    if call == WHOLE:
        return tell_whole(world, handed[0])
    # Of the calls behind start at alone, call 12, is left.
    return tell_at(world, handed[0])


def answer_in_world(world, call, handed):
    """Gives what a call on a world answers, as a list."""
    if call <= START:
        return [change_world(world, call, handed)]
    return look_at_world(world, call, handed)


def answer_call(line, call, handed):
    """Gives what a call answers, as a list."""
    if call == BEGIN:
        return [begin(line, handed[0])]
    if line.world is None:
        return [NO_WORLD]
    return answer_in_world(line.world, call, handed)


def answers(calls):
    """Gives for each call, in order, how many numbers are answered, then these."""
    line = Line()
    told = []
    place = 0
    while place < len(calls):
        call = calls[place]
        behind = place + 1 + HANDED[call]
        answer = answer_call(line, call, calls[place + 1:behind])
        told.append(len(answer))
        told.extend(answer)
        place = behind
    return told
