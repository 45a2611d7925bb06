"""The causes of a refusal, and what is answered then."""

# The causes are kept without their sign: no other answer is below 0, and the sign is put on in one place.
NOT_FITTING = 1
NO_SUCH_THING = 2
TOO_MANY_THINGS = 5
NO_RIGHT_FORM = 6
NOTHING_TO_UNDO = 7


def refusal(cause):
    return [-cause]
