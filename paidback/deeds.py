"""Rows of deeds: the state behind them, what was handed by them, and rows done again and again."""

from paidback.basics import MOST_CENTS, add_triples, bill_triples, billed, can_bill, can_come, can_go, come_triples
from paidback.basics import go_triples, is_cents, is_name, is_pair, is_whole_within, joined, parted, sum_triples
from paidback.clubs import check_state
from paidback.errors import NoDeeds, NoTimes

BILL = "bill"
COME = "come"
GO = "go"
MOST_DEEDS = 100
MOST_TIMES = 10 ** 18


def is_deed(thing):
    """Whether a thing is a deed, possible or not."""
    if not is_pair(thing):
        return False
    word, what = thing
    if word == BILL:
        return is_cents(what)
    return word in (COME, GO) and is_name(what)


def check_deeds(deeds):
    """Refuse anything that is no list of at most a hundred deeds."""
    if not isinstance(deeds, list) or len(deeds) > MOST_DEEDS or not all([is_deed(part) for part in deeds]):
        raise NoDeeds("deeds are a list of at most 100 pairs")


def check_times(times):
    """Refuse anything that is no number of times."""
    if not is_whole_within(times, 1, MOST_TIMES):
        raise NoTimes("times are a number from 1 to 10 ** 18")


def step(state, deed):
    """The state behind one deed and what is handed by it; None where it is not possible."""
    word, what = deed
    if word == BILL and can_bill(state, what):
        return billed(state, what), bill_triples(state, what)
    if word == COME and can_come(state, what):
        return joined(state, what), come_triples(state, what)
    if word == GO and can_go(state, what):
        return parted(state, what), go_triples(state, what)
    return None


def walk(state, deeds):
    """The state behind a row and all triples on the way; None where a deed is not possible in its turn."""
    triples = []
    now = state
    for deed in deeds:
        told = step(now, deed)
        if told is None:
            return None
        now, more = told
        triples.extend(more)
    return now, triples


def summed(triples):
    """One triple for each two and way, with all their cents, rising."""
    sums = {}
    add_triples(sums, triples)
    return sum_triples(sums)


def behind(state, deeds):
    """The state behind a row of deeds, None where one of them is not possible."""
    check_state(state)
    check_deeds(deeds)
    told = walk(state, deeds)
    return None if told is None else told[0]


def handed(state, deeds):
    """What everybody handed to everybody by a row of deeds, None where one of them is not possible."""
    check_state(state)
    check_deeds(deeds)
    told = walk(state, deeds)
    return None if told is None else summed(told[1])


def again(state, deeds, times):
    """The state behind a row done so many times, None where it leads elsewhere or is not possible each time."""
    check_state(state)
    check_deeds(deeds)
    check_times(times)
    once = behind(state, deeds)
    if once is None or once[1] != state[1]:
        return None
    # A last one who goes needs bills of 0: if that holds twice, the row adds no bills, and it holds
    # every time. Beyond the second time only the bound of the bills can stop a row.
    if times > 1 and behind(once, deeds) is None:
        return None
    bills = state[0] + times * (once[0] - state[0])
    return (bills, state[1]) if bills <= MOST_CENTS else None
