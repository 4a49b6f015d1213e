"""Notes, intervals and keys: what each call on them answers."""

REFUSED = -1
NO_NOTE = -3

# By the step in the octave, from C to B.
SEMITONES = (0, 2, 4, 5, 7, 9, 11)
PLACES = (0, 2, 4, -1, 1, 3, 5)

# How many numbers each call has.
WIDTHS = {1: 2, 2: 4, 3: 4, 4: 2, 5: 4}


def is_note(d, a):
    return 0 <= d <= 69 and -2 <= a <= 2


def is_key(k, mode):
    return -7 <= k <= 7 and 0 <= mode <= 6


def plain_semitones(steps):
    return 12 * (steps // 7) + SEMITONES[steps % 7]


def sound_of(d, a):
    # Step 0 is a C that sounds as 0, and the steps lie above a C as the plain intervals do.
    return plain_semitones(d) + a


def place_of(d, a):
    return PLACES[d % 7] + 7 * a


def quality_of(s, t):
    if s < 0:
        return -t - plain_semitones(-s)
    return t - plain_semitones(s)


def perfection_of(s):
    return 1 if abs(s) % 7 in (0, 3, 4) else 0


def consonance_of(s, t):
    left = abs(s) % 7
    quality = quality_of(s, t)
    if left in (0, 4) and quality == 0:
        return 2
    if left in (2, 5) and quality in (0, -1):
        return 1
    return 0


def note_above(d, a, s, t):
    """The note s steps and t semitones above the one told, as a list of two; None if that is no note."""
    step = d + s
    altered = sound_of(d, a) + t - sound_of(step, 0)
    if not is_note(step, altered):
        return None
    return [step, altered]


def first_step(k, mode):
    # Place k is k fifths above C, and each fifth is four steps.
    return (4 * k + mode) % 7


def key_alteration(k, step):
    # A key's places are seven in a row, so each step has just one of them: its last that is not beyond k + 5.
    return (k + 5 - PLACES[step % 7]) // 7


def tell_sound(d, a):
    if not is_note(d, a):
        return [REFUSED]
    return [0, sound_of(d, a), place_of(d, a)]


def tell_interval(d, a, other_d, other_a):
    if not is_note(d, a) or not is_note(other_d, other_a):
        return [REFUSED]
    s = other_d - d
    t = sound_of(other_d, other_a) - sound_of(d, a)
    return [0, s, t, quality_of(s, t), perfection_of(s), consonance_of(s, t)]


def tell_above(d, a, s, t):
    if not is_note(d, a) or not -70 <= s <= 70 or not -200 <= t <= 200:
        return [REFUSED]
    note = note_above(d, a, s, t)
    if note is None:
        return [NO_NOTE]
    return [0] + note


def tell_key(k, mode):
    if not is_key(k, mode):
        return [REFUSED]
    first = first_step(k, mode)
    return [first] + [key_alteration(k, first + degree) for degree in range(7)]


def tell_degree(k, mode, d, a):
    if not is_key(k, mode) or not is_note(d, a):
        return [REFUSED]
    return [(d - first_step(k, mode)) % 7, a - key_alteration(k, d)]


def tell(number, numbers):
    """What the call of this number answers to its numbers."""
    if number not in WIDTHS:
        raise NotImplementedError(f"there is no call {number}")
    if len(numbers) != WIDTHS[number]:
        return [REFUSED]
    if number == 1:
        return tell_sound(numbers[0], numbers[1])
    if number == 2:
        return tell_interval(numbers[0], numbers[1], numbers[2], numbers[3])
    if number == 3:
        return tell_above(numbers[0], numbers[1], numbers[2], numbers[3])
    if number == 4:
        return tell_key(numbers[0], numbers[1])
    return tell_degree(numbers[0], numbers[1], numbers[2], numbers[3])


def answers(calls):
    """For each call in the list, in order: how many numbers it answers, then these."""
    told = []
    at = 0
    while at < len(calls):
        behind = at + 2 + calls[at + 1]
        answer = tell(calls[at], calls[at + 2:behind])
        told.append(len(answer))
        told.extend(answer)
        # Behind a call's numbers stands how many lists it has, which is always 0.
        at = behind + 1
    return told
