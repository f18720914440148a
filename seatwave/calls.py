"""The numbers of the calls and how a call stands in a list of calls."""

CREATE = 0
SET_SECTION = 1
SET_ALL = 2
STAND_UP = 3
START_WAVE = 4
STEP = 5
ADVANCE = 6
ROTATE = 7
MIRROR = 8
SIT_DOWN = 9
GET_RING = 10
GET_SECTION = 11
RING_AFTER = 12
WINDING_NUMBER = 13
STEPS_UNTIL_QUIET = 14
CYCLE = 15
FORWARD_WAVES = 16
BACKWARD_WAVES = 17
STANDING_COUNT = 18
MAX_STANDING = 19
FIRST_STANDING = 20
QUIET_IF_STAND_UP = 21
GET_STATE = 22

# By call number: how many arguments follow it. The 0 of set_all is not used, as its row tells its own length.
ARGUMENT_COUNTS = (1, 2, 0, 1, 2, 0, 1, 1, 0, 0, 0, 1, 1, 0, 0, 0, 0, 0, 0, 0, 1, 1, 0)


def split_calls(calls):
    """List each call as a pair: its number, and the list of its arguments (of set_all, its states)."""
    pairs = []
    position = 0
    while position < len(calls):
        number = calls[position]
        position += 1
        length = ARGUMENT_COUNTS[number]
        if number == SET_ALL:
            length = calls[position]
            position += 1
        pairs.append((number, calls[position:position + length]))
        position += length
    return pairs
