"""What an instruction answers: that the run goes on, or the number of what stopped it."""

GOES_ON = 0
UNKNOWN = 1
NO_KEY = 2
WRONG_PLACES = 3
ENDED = 4
