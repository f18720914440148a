"""What the tests share: writing a session's calls as a list and reading its answers."""

import itertools

from seatwave import ring

CREATE, SET_SECTION, SET_ALL, STAND_UP, START_WAVE, STEP = 0, 1, 2, 3, 4, 5
ADVANCE, ROTATE, MIRROR, SIT_DOWN, GET_RING, GET_SECTION = 6, 7, 8, 9, 10, 11

SEATED, STANDING, RESTING = 0, 1, 2
GREATEST = 4294967295
GREATEST_IN_LIST = 65535


def call_list(calls):
    """Write calls such as (SET_ALL, [0, 1, 2]) one behind another: a row has its length before it."""
    numbers = []
    for call in calls:
        for part in call:
            if isinstance(part, list):
                numbers.append(len(part))
                numbers.extend(part)
            else:
                numbers.append(part)
    return numbers


def read_answers(numbers):
    """Read the answers as one list of numbers each."""
    read = []
    position = 0
    while position < len(numbers):
        length = numbers[position]
        answer = numbers[position + 1:position + 1 + length]
        if length < 1 or len(answer) != length:
            raise ValueError(f"no whole answer at {position} of {numbers}")
        read.append(answer)
        position += 1 + length
    return read


def play(*calls):
    """Play one session; a list of numbers for each of its calls."""
    read = read_answers(ring.answers(call_list(calls)))
    if len(read) != len(calls):
        raise ValueError(f"{len(calls)} calls, {len(read)} answers")
    return read


def play_on(states, *calls):
    """Play calls on a ring with these states; the answers to these calls alone."""
    return play((CREATE, len(states)), (SET_ALL, list(states)), *calls)[2:]


def ring_behind(states, *calls):
    """The states that a ring with these states has behind these calls."""
    return play_on(states, *calls, (GET_RING,))[-1][1:]


def all_rings(sections):
    """Every ring of this many sections."""
    return itertools.product((SEATED, STANDING, RESTING), repeat=sections)


def sample_rings():
    """Some rings of every size, among them ones with all three states at either end."""
    pattern = [0, 1, 2, 0, 0, 1, 1, 2, 2, 1, 0, 2, 1, 0, 1, 0, 0, 0, 2, 0, 1]
    for sections in range(3, 13):
        for first in range(0, 10):
            yield pattern[first:first + sections]
        yield [SEATED] * sections
        yield [STANDING] + [SEATED] * (sections - 1)
        yield [SEATED] * (sections - 1) + [STANDING]
