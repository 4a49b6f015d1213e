"""Notes, intervals, keys and chords: what each call on them answers."""

REFUSED = -1
NO_NOTE = -3
NO_CHORD = -3

# By the step in the octave, from C to B.
SEMITONES = (0, 2, 4, 5, 7, 9, 11)
PLACES = (0, 2, 4, -1, 1, 3, 5)

# By the kind: how many semitones above the root its notes are, from the root on.
CHORDS = (
    (0, 4, 7),
    (0, 3, 7),
    (0, 3, 6),
    (0, 4, 8),
    (0, 4, 7, 11),
    (0, 4, 7, 10),
    (0, 3, 7, 10),
    (0, 3, 6, 10),
    (0, 3, 6, 9),
)

# By how many notes a chord has, then by the turn.
FIGURES = {3: ((), (6,), (6, 4)), 4: ((7,), (6, 5), (4, 3), (2,))}

# How many numbers each call may have.
WIDTHS = {
    1: (2,),
    2: (4,),
    3: (4,),
    4: (2,),
    5: (4,),
    6: (1, 2, 3, 4, 5, 6, 7),
    7: (2, 4, 6, 8, 10, 12, 14, 16),
    8: (4,),
    9: (2, 4, 6, 8, 10, 12, 14, 16, 18),
}


def is_note(d, a):
    return 0 <= d <= 69 and -2 <= a <= 2


def are_notes(notes):
    return all([is_note(note[0], note[1]) for note in notes])


def is_fifths(k):
    return -7 <= k <= 7


def is_key(k, mode):
    return is_fifths(k) and 0 <= mode <= 6


def is_distance(s, t):
    return -70 <= s <= 70 and -200 <= t <= 200


def is_sound(sound):
    return 0 <= sound <= 118


def is_turned_kind(kind, turn):
    return 0 <= kind < len(CHORDS) and 0 <= turn < len(CHORDS[kind])


def plain_semitones(steps):
    return 12 * (steps // 7) + SEMITONES[steps % 7]


def sound_of(d, a):
    # Step 0 is a C that sounds as 0, and the steps lie above a C as the plain intervals do.
    return plain_semitones(d) + a


def place_of(d, a):
    return PLACES[d % 7] + 7 * a


def quality_of(s, t):
    if s < 0:
        return -t - plain_semitones(-s)
    return t - plain_semitones(s)


def perfection_of(s):
    return 1 if abs(s) % 7 in (0, 3, 4) else 0


def consonance_of(s, t):
    left = abs(s) % 7
    quality = quality_of(s, t)
    if left in (0, 4) and quality == 0:
        return 2
    if left in (2, 5) and quality in (0, -1):
        return 1
    return 0


def above(note, s, t):
    """What lies s steps and t semitones above the note, whether it is a note or not."""
    step = note[0] + s
    return [step, sound_of(note[0], note[1]) + t - sound_of(step, 0)]


def paired(numbers):
    return [numbers[at:at + 2] for at in range(0, len(numbers), 2)]


def counted(notes):
    """How many notes, then they, number by number; the refusal if one of them is no note."""
    if not are_notes(notes):
        return [NO_NOTE]
    told = [len(notes)]
    for note in notes:
        told.extend(note)
    return told


def first_step(k, mode):
    # Place k is k fifths above C, and each fifth is four steps.
    return (4 * k + mode) % 7


def key_alteration(k, step):
    # A key's places are seven in a row, so each step has just one of them: its last that is not beyond k + 5.
    return (k + 5 - PLACES[step % 7]) // 7


def notes_sounding(sound):
    reached = [[step, sound - sound_of(step, 0)] for step in range(70)]
    return [note for note in reached if is_note(note[0], note[1])]


def continued(row, note, k):
    """The row, which is its cost and then its notes, with one more note behind."""
    twice = 2 * place_of(note[0], note[1])
    cost = row[0] + abs(twice - (2 * k + 4))
    if len(row) > 1:
        cost += abs(twice - 2 * place_of(row[-2], row[-1]))
    return [cost] + row[1:] + note


def best_row(rows):
    # Rows that sound alike and have the same steps are the same: so the lists themselves, number by number,
    # lie as cost and steps do.
    return min(rows)


def best_with(rows, note, k):
    return best_row([continued(row, note, k) for row in rows])


def chord_notes(root, kind):
    semitones = CHORDS[kind]
    return [above(root, 2 * at, semitones[at]) for at in range(len(semitones))]


def turned(notes, turn):
    return notes[turn:] + [above(note, 7, 12) for note in notes[:turn]]


def different_names(notes):
    """Each name among the notes once, in the order in which they are told."""
    names = []
    for note in notes:
        name = [note[0] % 7, note[1]]
        if name not in names:
            names.append(name)
    return names


def are_same_names(names, others):
    return len(names) == len(others) and all([name in others for name in names])


def chord_answer(names, root, kind):
    """What chord answers if the names are those of this chord; None if they are not."""
    chord = different_names(chord_notes(root, kind))
    if not are_same_names(chord, names):
        return None
    turn = chord.index(names[0])
    return root + [kind, turn] + list(FIGURES[len(chord)][turn])


def tell_sound(d, a):
    if not is_note(d, a):
        return [REFUSED]
    return [0, sound_of(d, a), place_of(d, a)]


def tell_interval(d, a, other_d, other_a):
    if not is_note(d, a) or not is_note(other_d, other_a):
        return [REFUSED]
    s = other_d - d
    t = sound_of(other_d, other_a) - sound_of(d, a)
    return [0, s, t, quality_of(s, t), perfection_of(s), consonance_of(s, t)]


def tell_above(d, a, s, t):
    if not is_note(d, a) or not is_distance(s, t):
        return [REFUSED]
    note = above([d, a], s, t)
    if not is_note(note[0], note[1]):
        return [NO_NOTE]
    return [0] + note


def tell_key(k, mode):
    if not is_key(k, mode):
        return [REFUSED]
    first = first_step(k, mode)
    return [first] + [key_alteration(k, first + degree) for degree in range(7)]


def tell_degree(k, mode, d, a):
    if not is_key(k, mode) or not is_note(d, a):
        return [REFUSED]
    return [(d - first_step(k, mode)) % 7, a - key_alteration(k, d)]


def tell_spell(k, sounds):
    if not is_fifths(k) or not all([is_sound(sound) for sound in sounds]):
        return [REFUSED]
    rows = [[0]]
    for sound in sounds:
        # What comes behind costs the same for all rows that end in one note: only the best of them is kept.
        rows = [best_with(rows, note, k) for note in notes_sounding(sound)]
    return best_row(rows)


def tell_chord(notes):
    if not are_notes(notes):
        return [REFUSED]
    names = different_names(notes)
    for root in names:
        for kind in range(len(CHORDS)):
            answer = chord_answer(names, root, kind)
            if answer is not None:
                return answer
    return [NO_CHORD]


def tell_build(d, a, kind, turn):
    if not is_note(d, a) or not is_turned_kind(kind, turn):
        return [REFUSED]
    return counted(turned(chord_notes([d, a], kind), turn))


def tell_move(s, t, notes):
    if not is_distance(s, t) or not are_notes(notes):
        return [REFUSED]
    return counted([above(note, s, t) for note in notes])


def tell(number, numbers):
    """What the call of this number answers to its numbers."""
    if len(numbers) not in WIDTHS[number]:
        return [REFUSED]
    if number == 1:
        return tell_sound(numbers[0], numbers[1])
    if number == 2:
        return tell_interval(numbers[0], numbers[1], numbers[2], numbers[3])
    if number == 3:
        return tell_above(numbers[0], numbers[1], numbers[2], numbers[3])
    if number == 4:
        return tell_key(numbers[0], numbers[1])
    if number == 5:
        return tell_degree(numbers[0], numbers[1], numbers[2], numbers[3])
    if number == 6:
        return tell_spell(numbers[0], numbers[1:])
    if number == 7:
        return tell_chord(paired(numbers))
    if number == 8:
        return tell_build(numbers[0], numbers[1], numbers[2], numbers[3])
    return tell_move(numbers[0], numbers[1], paired(numbers[2:]))


def answers(calls):
    """For each call in the list, in order: how many numbers it answers, then these."""
    told = []
    at = 0
    while at < len(calls):
        behind = at + 2 + calls[at + 1]
        answer = tell(calls[at], calls[at + 2:behind])
        told.append(len(answer))
        told.extend(answer)
        # Behind a call's numbers stands how many lists it has, which is always 0.
        at = behind + 1
    return told
