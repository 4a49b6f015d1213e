"""How the tests ask the program, and their own count of notes, by walking where the program reckons."""

from calledbyname.notes import answers

SOUND, INTERVAL, ABOVE, KEY, DEGREE, SPELL, CHORD, BUILD, MOVE = range(1, 10)
HUGE = 2 ** 53
REFUSED = [-1]
NO_NOTE = [-3]
NO_CHORD = [-3]
LETTERS = "CDEFGAB"
ALTERATIONS = range(-2, 3)
NOTES = [(d, a) for d in range(70) for a in ALTERATIONS]
KEYS = [(k, mode) for k in range(-7, 8) for mode in range(7)]


def written(call):
    """A call (its number, then its numbers) as the interface writes it."""
    return [call[0], len(call) - 1, *call[1:], 0]


def parted(told):
    """What is given back, as one list for each call."""
    parts = []
    at = 0
    while at < len(told):
        part = told[at + 1:at + 1 + told[at]]
        if len(part) != told[at]:
            raise AssertionError(f"fewer numbers than counted: {told}")
        parts.append(part)
        at += 1 + told[at]
    return parts


def ask_all(calls):
    """What each of the calls answers, asked sixty in a list."""
    calls = list(calls)
    parts = []
    for at in range(0, len(calls), 60):
        some = calls[at:at + 60]
        told = parted(answers([number for call in some for number in written(call)]))
        if len(told) != len(some):
            raise AssertionError(f"{len(some)} calls, {len(told)} answers")
        parts.extend(told)
    return parts


def ask(*call):
    return ask_all([call])[0]


def note(name):
    """The note of a name such as C4, F#3, Bb5, Gx2 (raised by two) or Ebb4."""
    marks = name[1:-1]
    a = {"": 0, "#": 1, "x": 2, "b": -1, "bb": -2}[marks]
    return (7 * int(name[-1]) + LETTERS.index(name[0]), a)


def notes(names):
    """The notes of several names, parted by blanks, as one row of numbers."""
    return flat(note(name) for name in names.split())


def flat(some):
    return [number for one in some for number in one]


def walked_up(steps):
    """The semitones of so many white keys up from a C."""
    semitones = 0
    for step in range(steps):
        semitones += 1 if LETTERS[step % 7] in "EB" else 2
    return semitones


WALKED = [walked_up(steps) for steps in range(71)]
SOUNDS = {(d, a): WALKED[d] + a for d, a in NOTES}
FIFTHS = {(d, a): "FCGDAEB".index(LETTERS[d % 7]) - 1 + 7 * a for d, a in NOTES}


# Third, fifth and seventh of each kind, in semitones above the root.
KINDS = {0: "4 7", 1: "3 7", 2: "3 6", 3: "4 8", 4: "4 7 11", 5: "4 7 10", 6: "3 7 10", 7: "3 6 10", 8: "3 6 9"}
TURNED_KINDS = [(kind, turn) for kind in KINDS for turn in range(3 if kind < 4 else 4)]


def searched_above(one, s, t):
    """The note on the wanted step that sounds as wanted, looked for among all; None if there is none."""
    for altered in ALTERATIONS:
        if SOUNDS.get((one[0] + s, altered)) == SOUNDS[one] + t:
            return (one[0] + s, altered)
    return None


def searched_chord(root, kind):
    """Root, third, fifth (and seventh), each of them None if it is no note."""
    heights = [int(height) for height in KINDS[kind].split()]
    return [root, *(searched_above(root, 2 * at, height) for at, height in enumerate(heights, start=1))]


def own_alteration(k, step):
    """How the one note of the key on this step is altered, searched for."""
    found = [a for a in ALTERATIONS if k - 1 <= FIFTHS[(step % 7, a)] <= k + 5]
    if len(found) != 1:
        raise AssertionError(f"key {k} has {len(found)} notes on step {step}")
    return found[0]


def first_degree(k, mode):
    """The step of the first degree: that of the note at place k, searched for, and so many more as the mode."""
    found = [d for d, a in NOTES if d < 7 and FIFTHS[(d, a)] == k]
    if len(found) != 1:
        raise AssertionError(f"{len(found)} notes at place {k}")
    return (found[0] + mode) % 7


def spoiled(call, ranges):
    """The call with each of its numbers in turn beyond its range, by one and by far."""
    for at, (low, high) in enumerate(ranges, start=1):
        for wrong in (low - 1, high + 1, -HUGE, HUGE):
            yield (*call[:at], wrong, *call[at + 1:])


STEP = (0, 69)
ALTERED = (-2, 2)
FIFTHS_OF_KEY = (-7, 7)
MODE = (0, 6)
STEPS_ABOVE = (-70, 70)
SEMITONES_ABOVE = (-200, 200)
SOUND_TOLD = (0, 118)
KIND = (0, 8)
TURN_OF_THREE = (0, 2)
TURN_OF_FOUR = (0, 3)
