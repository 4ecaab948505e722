"""Machine code: instructions over masks, the code of a weave, and what a code issues."""

from sideweave.errors import NoCode, TooLong
from sideweave.kernels import check_kernel
from sideweave.plain import Group, check_lanes, check_launch
from sideweave.terms import is_name, is_term
from sideweave.weaves import check_weave, is_choice, is_index, opened

MASKS = 100
MOST_INSTRUCTIONS = 400
MOST_ISSUES = 4000
MOST_IDLE = 2000


def is_code(thing):
    """Tell whether a value is a code."""
    if not isinstance(thing, tuple) or len(thing) > MOST_INSTRUCTIONS:
        return False
    return all(is_instruction(instruction, len(thing) + 1) for instruction in thing)


def is_instruction(thing, places):
    """Tell whether a value is an instruction of a code with so many places to go on at."""
    if not isinstance(thing, tuple) or not thing:
        return False
    if thing[0] == "set":
        return len(thing) == 4 and is_choice(thing[1], MASKS) and is_name(thing[2]) and is_term(thing[3])
    if thing[0] == "test":
        return len(thing) == 3 and is_moves(thing[1]) and is_term(thing[2])
    if thing[0] == "join":
        return len(thing) == 3 and is_choice(thing[1], MASKS) and is_index(thing[2], MASKS)
    if thing[0] == "skip":
        return len(thing) == 3 and is_choice(thing[1], MASKS) and is_index(thing[2], places)
    return thing[0] == "back" and len(thing) == 2 and is_index(thing[1], places)


def is_moves(thing):
    """Tell whether a value is a tuple of one or more moves with ascending different froms."""
    if not isinstance(thing, tuple) or not all(is_move(move) for move in thing):
        return False
    return is_choice(tuple([move[0] for move in thing]), MASKS)


def is_move(thing):
    """Tell whether a value is a tuple (from, yes, no) of masks."""
    return isinstance(thing, tuple) and len(thing) == 3 and all(is_index(mask, MASKS) for mask in thing)


def check_code(thing):
    """Raise NoCode for what is no code."""
    if not is_code(thing):
        raise NoCode("this is no code")


class Run:
    """A code under way: the next place, the mask in which each lane is, and the group of the lanes."""

    def __init__(self, instructions, launch):
        self.instructions = instructions
        self.group = Group(launch)
        self.mask_of = [0] * len(launch)
        self.place = 0

    def lanes_in(self, masks):
        """Return the ascending list of the lanes in these masks."""
        return [lane for lane, mask in enumerate(self.mask_of) if mask in masks]

    def execute(self):
        """Execute the next instruction."""
        instruction = self.instructions[self.place]
        word = instruction[0]
        self.place += 1
        if word == "set":
            self.group.issue(("set", instruction[2], instruction[3]), self.lanes_in(instruction[1]))
        elif word == "test":
            self.execute_test(instruction[1], instruction[2])
        elif word == "join":
            for lane in self.lanes_in(instruction[1]):
                self.mask_of[lane] = instruction[2]
        elif word == "back":
            self.place = instruction[1]
        elif not self.lanes_in(instruction[1]):
            self.place = instruction[2]

    def execute_test(self, moves, term):
        """Execute a test, and move each lane of the masks that it is for."""
        move_from = {move[0]: move for move in moves}
        lanes = self.lanes_in(move_from)
        holding = self.group.issue(("test", term), lanes)
        for lane in lanes:
            _, yes, no = move_from[self.mask_of[lane]]
            self.mask_of[lane] = yes if lane in holding else no

    def issue_next(self):
        """Go on to the next issue and return it, or go on to the end and return None; raise TooLong(None) on the way.

        What was done on the way is not undone then.
        """
        issued = self.group.issued
        before = len(issued)
        idle = 0
        while self.place < len(self.instructions):
            self.execute()
            if len(issued) > before:
                break
            idle += 1
            if idle > MOST_IDLE:
                raise TooLong(None)
        if len(issued) > MOST_ISSUES:
            raise TooLong(None)
        return issued[-1] if len(issued) > before else None

    def kept(self):
        """Return what bring_back needs to return to here."""
        return self.place, list(self.mask_of), self.group.kept()

    def bring_back(self, kept):
        """Return to where kept was called; all that was done since is undone."""
        self.place = kept[0]
        self.mask_of = list(kept[1])
        self.group.bring_back(kept[2])


def run_code(kernel, code, launch):
    """Return the lanes' ends, with the kernel's outputs, and all issues of a code, as two lists."""
    run = started(kernel, code, launch)
    while run.issue_next() is not None:
        pass
    return run.group.ends(kernel[0]), run.group.issued


def started(kernel, code, launch):
    """Return the run of a code for a launch, with nothing executed; raise the errors of the arguments."""
    check_kernel(kernel)
    check_code(code)
    check_launch(launch)
    check_lanes(kernel, launch)
    return Run(code, launch)


def code_of(kernel, weave):
    """Return a code that issues, for every launch, just what a weave of the kernel issues."""
    check_kernel(kernel)
    check_weave(kernel, weave)
    code = []
    write_items(opened((kernel[1],), weave), [0], 1, code)
    return tuple(code)


def write_items(items, masks, free, code):
    """Add the instructions of opened items to a code.

    The lanes of each side are in its mask, before and afterwards; from the mask `free` on all are empty.
    """
    for item in items:
        mine = [masks[side] for side in item.sides]
        if item.word == "set":
            row = item.rows[0][0]
            code.append(("set", tuple(sorted(mine)), row[1], row[2]))
        elif item.word == "split":
            write_split(item, mine, free, code)
        else:
            write_loop(item, mine, free, code)


def write_split(item, mine, free, code):
    """Add the instructions of a split: lanes with a value other than 0 stay in the masks of their sides."""
    others = masks_from(free, mine)
    write_tests(item, mine, others, code)
    inner = [mask for pair in zip(mine, others) for mask in pair]
    write_items(item.inner, inner, free + len(mine), code)
    write_joins(mine, others, code)


def write_loop(item, mine, free, code):
    """Add the instructions of a loop: lanes that have left it wait in masks of their own."""
    others = masks_from(free, mine)
    start = len(code)
    write_tests(item, mine, others, code)
    # The skip out of the loop has its place kept until it is known where the loop ends.
    kept = len(code)
    code.append(())
    write_items(item.inner, mine, free + len(mine), code)
    code.append(("back", start))
    code[kept] = ("skip", tuple(sorted(mine)), len(code))
    write_joins(mine, others, code)


def masks_from(free, mine):
    """Return as many masks that are free as there are masks of sides."""
    return [free + at for at in range(len(mine))]


def write_tests(item, mine, others, code):
    """Add the tests of an item, that move the lanes with the value 0 to the other mask of their side."""
    for row, places in item.rows:
        moves = [(mine[place], mine[place], others[place]) for place in places]
        code.append(("test", tuple(sorted(moves)), row[1]))


def write_joins(mine, others, code):
    """Add the joins that bring the lanes in the other masks back to the masks of their sides."""
    for mask, other in zip(mine, others):
        code.append(("join", (other,), mask))
