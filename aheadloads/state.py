"""All that one machine holds from one call to the next."""

from aheadloads.frames import (
    COMMON_REGISTERS, FIXED_PREDICATES, FRAME_LIMIT, TURNING_PREDICATES,
    places_of_predicates, places_of_registers, turn_names, turned_once,
)

MEMORY_SIZE = 65536
PROGRAM_SIZE = 4096
# r0 to r31, then the stack: 4096 and a frame's most.
REGISTERS_HELD = 4224
PREDICATES = 64
BRANCHES = 8


class State:
    def __init__(self):
        self.begin()

    def begin(self):
        self.memory = [0] * MEMORY_SIZE
        self.program = [0] * PROGRAM_SIZE
        self.begin_registers()
        self.set_frame(0, (FRAME_LIMIT, 0, 0, 0, 0))
        self.next_instruction = 0
        # By where the loading one is: (place, size). A dict keeps the earliest first, which gives way.
        self.loads_ahead = {}
        self.why = 0

    def begin_registers(self):
        # A register that is nothing holds None.
        self.registers = [0] * REGISTERS_HELD
        # p0 is 1 always, so "all 0" can't be said of it.
        self.predicates = [1] + [0] * (PREDICATES - 1)
        self.branches = [0] * BRANCHES
        self.loop_count = 0
        self.epilog_count = 0
        self.kept_by_call = 0

    def set_frame(self, bottom, frame):
        self.bottom = bottom
        self.frame = frame
        # Worked out here, since frames change far less often than names are used.
        self.places = places_of_registers(bottom, frame)
        self.predicate_places = places_of_predicates(frame)

    def turn(self):
        self.frame = turned_once(self.frame)
        # The tables are not worked out anew, since a loop may turn at every step of millions.
        turn_names(self.places, COMMON_REGISTERS, self.frame[2])
        turn_names(self.predicate_places, FIXED_PREDICATES, TURNING_PREDICATES)
