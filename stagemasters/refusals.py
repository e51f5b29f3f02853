"""The numbers of the refusals."""

NO_SUCH = -1
TOO_LONG = -2
NOT_NOW = -3
FAULTY = -6
