"""A board of gates over which marbles fall: the calls on it, and what each of them answers."""

BUILD = 0
DROP = 1
MANY = 2
RUN = 3
BACK = 4
TILT = 5
STATE = 6

NOT_AS_TOLD = -22
HAS_GEARED = -33

MOST_GATES = 64
GATE_NUMBERS = 4
FIRST_EXIT = 64
EXITS = 16
ENTRIES = 4
NO_ENTRY = 4
MOST_IN_A_RUN = 10000

TILTS = 0
STAYS = 1
FIRST_SET = 2
LAST_SET = 9
RIGHT = 1


class Reader:
    """Takes number by number, and row by row, from the list of calls, which stays as it is."""

    def __init__(self, calls):
        self.calls = calls
        self.at = 0

    def has_more(self):
        return self.at < len(self.calls)

    def take_number(self):
        number = self.calls[self.at]
        self.at += 1
        return number

    def take_row(self):
        size = self.take_number()
        row = self.calls[self.at:self.at + size]
        self.at += size
        return row


class Machine:
    """The gates, entries and levers that a build has told, all of them as they must be.

    The tilts of all gates are one number, gate 0 in its lowest bit, so that a whole set of
    geared gates is tilted to the other side in one step, by the gate's own number in flips.
    """

    def __init__(self, gates, entries, levers):
        self.kinds = [gate[0] for gate in gates]
        self.tilts = sum([gate[1] << number for number, gate in enumerate(gates)])
        self.sides = [(gate[2], gate[3]) for gate in gates]
        self.flips = [flipped_behind(self.kinds, number) for number in range(len(gates))]
        self.entries = entries
        self.levers = levers


class Board:
    """The object that the calls of one list are made on; it has no machine till one is built."""

    def __init__(self):
        self.machine = None


def flipped_behind(kinds, number):
    """Those gates, as bits, that a marble tilts to the other side by going over this one."""
    kind = kinds[number]
    if kind == STAYS:
        return 0
    if kind == TILTS:
        return 1 << number
    return sum([1 << other for other in range(len(kinds)) if kinds[other] == kind])


def split_gates(numbers):
    """One row of kind, tilt, left and right for each gate."""
    return [numbers[at:at + GATE_NUMBERS] for at in range(0, len(numbers), GATE_NUMBERS)]


def is_exit(place):
    return FIRST_EXIT <= place < FIRST_EXIT + EXITS


def is_place_from(place, first, size):
    """Whether this is an exit, or one of the board's gates from the first that is allowed on."""
    return first <= place < size or is_exit(place)


def is_gate(gate, number, size):
    # A marble only goes on to greater numbers, so that each one comes out in the end.
    return (
        gate[0] <= LAST_SET
        and gate[1] <= RIGHT
        and is_place_from(gate[2], number + 1, size)
        and is_place_from(gate[3], number + 1, size)
    )


def is_machine(gates, entries, levers):
    size = len(gates)
    # Asked first, as a gate behind the 64th would have the number of an exit.
    if size > MOST_GATES:
        return False
    return (
        all([is_gate(gate, number, size) for number, gate in enumerate(gates)])
        and all([is_place_from(place, 0, size) for place in entries])
        and all([lever <= NO_ENTRY for lever in levers])
    )


def is_entry(entry):
    return entry < ENTRIES


def has_geared(machine):
    return any([kind >= FIRST_SET for kind in machine.kinds])


def let_go(machine, entry):
    """One marble falls from an entry: the number of the exit that it comes out of."""
    sides = machine.sides
    flips = machine.flips
    tilts = machine.tilts
    place = machine.entries[entry]
    while place < FIRST_EXIT:
        side = tilts >> place & 1
        tilts = tilts ^ flips[place]
        place = sides[place][side]
    machine.tilts = tilts
    return place - FIRST_EXIT


def tilt_of(machine, number):
    return machine.tilts >> number & 1


def pass_gate(machine, number, arrived):
    """All marbles that arrived at one gate, which is not geared, go on to its two sides."""
    here = arrived[number]
    side = tilt_of(machine, number)
    if machine.kinds[number] == STAYS:
        ahead = here
    else:
        ahead = (here + 1) // 2
    arrived[machine.sides[number][side]] += ahead
    arrived[machine.sides[number][1 - side]] += here - ahead


def arrivals(machine, entry, count):
    """How many of so many marbles from an entry would come by each place, where nothing is geared.

    A gate's marbles all come from gates with lower numbers, and which of them comes first
    makes no difference, so each gate is gone through once with all of its marbles.
    """
    arrived = [0] * (FIRST_EXIT + EXITS)
    arrived[machine.entries[entry]] = count
    for number in range(len(machine.kinds)):
        pass_gate(machine, number, arrived)
    return arrived


def let_go_many(machine, entry, count):
    """So many marbles fall from an entry, where nothing is geared: how many come out of each exit."""
    arrived = arrivals(machine, entry, count)
    for number in range(len(machine.kinds)):
        if arrived[number] % 2 == 1:
            machine.tilts = machine.tilts ^ machine.flips[number]
    return arrived[FIRST_EXIT:]


def halvings(number):
    """How often a number above 0 can be halved before it is odd."""
    return (number & -number).bit_length() - 1


def doublings_till_back(machine, entry):
    """The least k so that 2 to the k marbles from an entry leave all gates as they are.

    A gate that tilts is as it was when an even number came by, and each of its sides has had
    just half of them then. As there are 64 gates at most, 2 to the 64 marbles are an even
    number at each. With one doubling fewer half as many come by: so a gate whose marbles can
    be halved h times asks for 64 + 1 - h doublings, and the gate that asks for most decides.
    """
    arrived = arrivals(machine, entry, 1 << MOST_GATES)
    tilting = [number for number, kind in enumerate(machine.kinds) if kind == TILTS]
    asked = [MOST_GATES + 1 - halvings(arrived[number]) for number in tilting if arrived[number] > 0]
    return max(asked, default=0)


def build(board, numbers, entries, levers):
    gates = split_gates(numbers)
    if not is_machine(gates, entries, levers):
        return [NOT_AS_TOLD]
    board.machine = Machine(gates, entries, levers)
    return [0]


def drop(board, entry):
    if not is_entry(entry):
        return [NOT_AS_TOLD]
    return [let_go(board.machine, entry)]


def many(board, entry, count):
    if not is_entry(entry):
        return [NOT_AS_TOLD]
    if has_geared(board.machine):
        return [HAS_GEARED]
    return [0] + let_go_many(board.machine, entry, count)


def run(board, entry, most):
    if not is_entry(entry) or not 1 <= most <= MOST_IN_A_RUN:
        return [NOT_AS_TOLD]
    machine = board.machine
    came_out = [0] * EXITS
    gone = 0
    upcoming = entry
    while upcoming != NO_ENTRY and gone < most:
        way_out = let_go(machine, upcoming)
        came_out[way_out] += 1
        gone += 1
        upcoming = machine.levers[way_out]
    return [gone] + came_out + [upcoming]


def back(board, entry):
    if not is_entry(entry):
        return [NOT_AS_TOLD]
    if has_geared(board.machine):
        return [HAS_GEARED]
    return [doublings_till_back(board.machine, entry)]


def tilt(board, number, side):
    machine = board.machine
    if number >= len(machine.kinds) or side > RIGHT:
        return [NOT_AS_TOLD]
    before = tilt_of(machine, number)
    # Told by hand, a gate is tilted alone, whatever its kind: its set follows marbles only.
    machine.tilts = machine.tilts ^ (before ^ side) << number
    return [before]


def state(board):
    return [len(board.machine.kinds), board.machine.tilts]


def answer_build(board, reader):
    gates = reader.take_row()
    entries = reader.take_row()
    levers = reader.take_row()
    return build(board, gates, entries, levers)


def answer_drop(board, reader):
    entry = reader.take_number()
    return drop(board, entry)


def answer_many(board, reader):
    entry = reader.take_number()
    count = reader.take_number()
    return many(board, entry, count)


def answer_run(board, reader):
    entry = reader.take_number()
    most = reader.take_number()
    return run(board, entry, most)


def answer_back(board, reader):
    entry = reader.take_number()
    return back(board, entry)


def answer_tilt(board, reader):
    number = reader.take_number()
    side = reader.take_number()
    return tilt(board, number, side)


def answer_call(board, reader):
    """Takes one whole call from the reader: the numbers that it answers."""
    call = reader.take_number()
    if call == BUILD:
        return answer_build(board, reader)
    if call == DROP:
        return answer_drop(board, reader)
    if call == MANY:
        return answer_many(board, reader)
    if call == RUN:
        return answer_run(board, reader)
    if call == BACK:
        return answer_back(board, reader)
    if call == TILT:
        return answer_tilt(board, reader)
    if call == STATE:
        return state(board)
    raise ValueError(f"no such call: {call}")


def answers(calls):
    """What all calls of the list answer, one behind another, each with its length before it."""
    reader = Reader(calls)
    board = Board()
    answered = []
    while reader.has_more():
        answer = answer_call(board, reader)
        answered.append(len(answer))
        answered.extend(answer)
    return answered
