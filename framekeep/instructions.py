"""The instructions of programs, by their first numbers."""

PUT = 0
PUT_LENGTH = 1
TAKE_BYTES = 2
OPERATE = 3
COMPARE = 4
NEGATE = 5
LEAVE_OUT_IF_NO = 6
LEAVE_OUT_IF_YES = 7
END = 8
