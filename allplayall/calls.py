"""How calls are handed in: one behind another, each as its number and what it is given."""

# How many whole numbers a call is given, ahead of its list if it has one.
NUMBERS_GIVEN = {
    0: 0, 1: 1, 2: 1, 3: 1, 4: 2, 5: 2, 6: 2, 7: 2, 8: 2, 9: 2, 10: 0, 11: 0, 12: 0,
    100: 2, 101: 2, 102: 3, 103: 3, 104: 2, 105: 1, 106: 1, 107: 2, 108: 1, 109: 3, 110: 2, 111: 1, 112: 1,
    113: 3, 114: 3, 115: 2, 116: 3, 117: 1,
    200: 2, 201: 2, 202: 3, 203: 3, 204: 2, 205: 1, 206: 1, 207: 2, 208: 1, 209: 1, 210: 1, 211: 2, 212: 2,
    213: 2, 214: 2, 215: 2, 216: 2, 217: 1,
    300: 2, 301: 2, 302: 3, 303: 3, 304: 2, 305: 1, 306: 2, 307: 2, 308: 3, 309: 3, 310: 1, 311: 2, 312: 1,
    313: 1, 314: 1, 315: 1, 316: 1, 317: 1,
    400: 2, 401: 2, 402: 3, 403: 3, 404: 2, 405: 2, 406: 2, 407: 1, 408: 1, 409: 2, 410: 1, 411: 2, 412: 1,
    413: 1, 414: 2, 415: 2, 416: 1,
    500: 2, 501: 2, 502: 3, 503: 3, 504: 2, 505: 2, 506: 2, 507: 1, 508: 1, 509: 1, 510: 1, 511: 2, 512: 2,
    513: 1, 514: 2, 515: 2, 516: 1, 517: 1,
    600: 2, 601: 2, 602: 3, 603: 3, 604: 2, 605: 1, 606: 2, 607: 2, 608: 2, 609: 3, 610: 1, 611: 2, 612: 1,
    613: 1, 614: 1, 615: 1, 616: 1, 617: 1,
}
# The calls that are given a list behind their numbers.
WITH_LIST = (108, 206, 207, 208, 209, 310, 315, 610)


def read_calls(calls):
    """For each call its number, and a list of what it is given, in which its list is one."""
    read = []
    at = 0
    while at < len(calls):
        number = calls[at]
        end = at + 1 + NUMBERS_GIVEN[number]
        given = calls[at + 1:end]
        if number in WITH_LIST:
            begin = end + 1
            end = begin + calls[end]
            given.append(calls[begin:end])
        read.append((number, given))
        at = end
    return read


def asked(question, subject, given):
    """What the question answers of the subject with what the call is given: at most two."""
    if len(given) == 0:
        return question(subject)
    if len(given) == 1:
        return question(subject, given[0])
    return question(subject, given[0], given[1])
