"""The signals: each is a tuple of its number and what it is told with."""

WORD = 0
LINK = 1
CUT = 2
HEARD = 3
ENDED = 4
STOP = 5
WATCH = 6
UNWATCH = 7
GONE = 8

# The whys that have a meaning of their own.
AS_IT_SHOULD = 0
TO_BE_KILLED = 1
KILLED = 2
NOBODY_THERE = 3
CONNECTION_LOST = 4


# None where nothing comes back: only who waits for an answer is told that none will be given.
def comes_back(signal, why):
    if signal[0] == LINK:
        return (ENDED, why)
    if signal[0] == CUT:
        return (HEARD, signal[1])
    if signal[0] == WATCH:
        return (GONE, signal[1], why)
    return None
