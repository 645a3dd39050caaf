"""All that one machine holds from one call to the next."""

MEMORY_SIZE = 65536
PROGRAM_SIZE = 4096
COMMON_REGISTERS = 32
FRAME_LIMIT = 96
STACK_SIZE = 4096 + FRAME_LIMIT
PREDICATES = 64
BRANCHES = 8


class State:
    def __init__(self):
        self.begin()

    def begin(self):
        self.memory = [0] * MEMORY_SIZE
        self.program = [0] * PROGRAM_SIZE
        self.begin_registers()
        self.begin_frame()
        self.next_instruction = 0
        # The earliest load stands first, since it is the one that gives way.
        self.loads_ahead = []

    def begin_registers(self):
        self.common = [0] * COMMON_REGISTERS
        self.stacked = [0] * STACK_SIZE
        # p0 is 1 always, so "all 0" can't be said of it.
        self.predicates = [1] + [0] * (PREDICATES - 1)
        self.branches = [0] * BRANCHES
        self.loop_count = 0
        self.epilog_count = 0
        self.kept_by_call = 0

    def begin_frame(self):
        self.bottom = 0
        self.frame_size = FRAME_LIMIT
        self.frame_own = 0
        self.frame_turning = 0
        self.registers_turned = 0
        self.predicates_turned = 0
