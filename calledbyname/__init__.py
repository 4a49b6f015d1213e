"""Notes, intervals, keys, chords: what they are called."""
