"""How many of each thing there may be, and how great numbers may get."""

# Clips: pieces of a track, tracks and markers of a clip.
PIECES = 12
TRACKS = 6
MARKERS = 12

# Players: heads, entries of the history, events in one call.
HEADS = 4
COMMANDS = 40
EVENTS = 100

# Digits above and below in a number that is read.
DIGITS = 9

# Books and scenes: moments besides start, facts, shows.
MOMENTS = 8
FACTS = 40
SHOWS = 6

# The greatest number in a fact, and its greatest denominator.
GREAT = 1000
