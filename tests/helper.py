"""What the tests share: writing a session's calls as a list and reading its answers."""

import itertools

from seatwave import ring

CREATE, SET_SECTION, SET_ALL, STAND_UP, START_WAVE, STEP = 0, 1, 2, 3, 4, 5
ADVANCE, ROTATE, MIRROR, SIT_DOWN, GET_RING, GET_SECTION = 6, 7, 8, 9, 10, 11
RING_AFTER, WINDING_NUMBER, STEPS_UNTIL_QUIET, CYCLE, FORWARD_WAVES, BACKWARD_WAVES = 12, 13, 14, 15, 16, 17
STANDING_COUNT, MAX_STANDING, FIRST_STANDING, QUIET_IF_STAND_UP, GET_STATE = 18, 19, 20, 21, 22

SEATED, STANDING, RESTING = 0, 1, 2
GREATEST = 4294967295
GREATEST_IN_LIST = 65535
NEVER = -33


def call_list(calls):
    """Write calls such as (SET_ALL, [0, 1, 2]) one behind another: a row has its length before it."""
    numbers = []
    for call in calls:
        for part in call:
            if isinstance(part, list):
                numbers.append(len(part))
                numbers.extend(part)
            else:
                numbers.append(part)
    return numbers


def read_answers(numbers):
    """Read the answers as one list of numbers each."""
    read = []
    position = 0
    while position < len(numbers):
        length = numbers[position]
        answer = numbers[position + 1:position + 1 + length]
        if length < 1 or len(answer) != length:
            raise ValueError(f"no whole answer at {position} of {numbers}")
        read.append(answer)
        position += 1 + length
    return read


def play(*calls):
    """Play one session; a list of numbers for each of its calls."""
    read = read_answers(ring.answers(call_list(calls)))
    if len(read) != len(calls):
        raise ValueError(f"{len(calls)} calls, {len(read)} answers")
    return read


def play_on(states, *calls):
    """Play calls on a ring with these states; the answers to these calls alone."""
    return play((CREATE, len(states)), (SET_ALL, list(states)), *calls)[2:]


def ring_behind(states, *calls):
    """The states that a ring with these states has behind these calls."""
    return play_on(states, *calls, (GET_RING,))[-1][1:]


def rings_ahead(states, steps=60):
    """The ring now and after each of these steps, performed one by one."""
    return [answer[1:] for answer in play_on(states, (GET_RING,), *[(STEP,), (GET_RING,)] * steps)[::2]]


def queries(sections):
    """Every call from 10 to 22, with every section of a ring and with what they refuse."""
    of_a_section = (GET_SECTION, FIRST_STANDING, QUIET_IF_STAND_UP)
    calls = [(number, i) for number in of_a_section for i in [*range(sections), sections, GREATEST]]
    calls.extend((RING_AFTER, steps) for steps in (0, 1, 2, 40, 41, GREATEST))
    calls.extend((number,) for number in range(GET_RING, GET_STATE + 1) if number not in (*of_a_section, RING_AFTER))
    return calls


def all_rings(sections):
    """Every ring of this many sections."""
    return itertools.product((SEATED, STANDING, RESTING), repeat=sections)


def small_rings():
    """Every ring of 3 to 6 sections."""
    for sections in range(3, 7):
        for states in all_rings(sections):
            yield list(states)


def sample_rings():
    """Some rings of every size, among them ones with all three states at either end."""
    pattern = [0, 1, 2, 0, 0, 1, 1, 2, 2, 1, 0, 2, 1, 0, 1, 0, 0, 0, 2, 0, 1]
    for sections in range(3, 13):
        for first in range(0, 10):
            yield pattern[first:first + sections]
        yield [SEATED] * sections
        yield [STANDING] + [SEATED] * (sections - 1)
        yield [SEATED] * (sections - 1) + [STANDING]
        for waves in range(1, sections // 3 + 1):
            running = [RESTING, STANDING, SEATED] * waves + [SEATED] * (sections - 3 * waves)
            yield running
            yield running[::-1]


def every_ring():
    """The small rings and some of every size."""
    yield from small_rings()
    yield from sample_rings()
