"""The numbers that refuse a call."""

# There is no such league, or no such player.
NO_SUCH = -2
# There is nothing to take back, or nothing to do again.
NO_CHANGE = -6
# The whole has not been started yet.
NOT_STARTED = -11
# What was told is not as it has to be.
NOT_FIT = -22
# There would be too many leagues, or there are too many players.
TOO_MANY = -28
# What was asked for is nowhere to be found.
NOT_FOUND = -33
