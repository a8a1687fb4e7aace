"""Where a line or a text can't be read on: each byte leads from one state of reading to the next."""

TAB = 9
DOT = 46
SLASH = 47
LESS = 60
EQUALS = 61
GREATER = 62
BACKSLASH = 92
BYTES_BEHIND_BACKSLASH = (60, 92, 110, 116)

KEY_BEGIN = "no byte of a key yet"
IN_KEY = "within a key"
IN_TEXT = "between the things of a text"
BEHIND_BACKSLASH = "behind a backslash"
BEHIND_LESS = "behind a tag's first byte"
BEHIND_CLOSING = "behind a closing tag's slash"
BEHIND_DIGIT = "behind the digit of a tag that opens or stands alone"
AT_TAG_END = "ahead of a tag's last byte"
WRONG = "behind a byte that can't stand there"


# The place of the first byte of row that can't stand there; its end, if something lacks; None, if it's whole.
def fault_place(row, state):
    for place, byte in enumerate(row):
        state = state_behind(state, byte)
        if state == WRONG:
            return place
    return None if state == IN_TEXT else len(row)


def state_behind(state, byte):
    if state == IN_TEXT:
        return state_behind_text(byte)
    if state == KEY_BEGIN or state == IN_KEY:
        return state_behind_key(state, byte)
    if state == BEHIND_BACKSLASH:
        return IN_TEXT if byte in BYTES_BEHIND_BACKSLASH else WRONG
    return state_behind_tag(state, byte)


def state_behind_text(byte):
    if byte == BACKSLASH:
        return BEHIND_BACKSLASH
    if byte == LESS:
        return BEHIND_LESS
    return WRONG if byte == TAB else IN_TEXT


def state_behind_key(state, byte):
    if is_key_byte(byte):
        return IN_KEY
    # A key has at least one byte, so = can't be the first.
    return IN_TEXT if byte == EQUALS and state == IN_KEY else WRONG


def state_behind_tag(state, byte):
    if state == BEHIND_LESS and byte == SLASH:
        return BEHIND_CLOSING
    if state == BEHIND_LESS:
        return BEHIND_DIGIT if is_digit(byte) else WRONG
    if state == BEHIND_CLOSING:
        return AT_TAG_END if is_digit(byte) else WRONG
    if state == BEHIND_DIGIT and byte == SLASH:
        return AT_TAG_END
    return IN_TEXT if byte == GREATER else WRONG


def is_digit(byte):
    return 48 <= byte <= 57


def is_key_byte(byte):
    return 97 <= byte <= 122 or is_digit(byte) or byte == DOT
