"""Places, pairs of x and y, in fine steps: so those on a curve are whole numbers too."""

# The fine steps in one. A curve's places are told in parts of 4096, or of 256.
FINE = 4096
HALF = 2048


def fine(place):
    return (FINE * place[0], FINE * place[1])
