"""The shop's one door: a list of calls goes in, a list of answers comes out."""

from skihire.asking import tell_code, tell_ideal, tell_setting
from skihire.booking import book_hire, cancel_hire
from skihire.counter import give_out, pass_days, serve_skis, take_back
from skihire.reading import BACK, BECOMES, BEGIN, BOOT, CANCEL, CHART, CODE, DAYS, GIVE, GUEST, HIRE
from skihire.reading import IDEAL, SERVE, SETTING, SKI, needs_chart, read_calls
from skihire.records import Line
from skihire.refusals import NO_CHART, NOT_BEGUN
from skihire.stock import add_boot, add_guest, add_ski, begin, change_guest, put_chart


class NoSuchCall(Exception):
    """A call that the program doesn't know."""


def answer_stock(shop, number, given):
    """Answer a call that says what there is."""
    if number == CHART:
        return put_chart(shop, given[0], given[1], given[2], given[3])
    if number == SKI:
        return add_ski(shop, given[0], given[1], given[2], given[3])
    if number == BOOT:
        return add_boot(shop, given[0], given[1])
    if number == GUEST:
        return add_guest(shop, given[0], given[1], given[2], given[3], given[4])
    return change_guest(shop, given[0], given[1], given[2], given[3], given[4])


def answer_hires(shop, number, given):
    """Answer a call about a hire, the service or the days."""
    if number == HIRE:
        return book_hire(shop, given[0], given[1], given[2], given[3])
    if number == CANCEL:
        return cancel_hire(shop, given[0])
    if number == GIVE:
        return give_out(shop, given[0])
    if number == BACK:
        return take_back(shop, given[0])
    if number == SERVE:
        return serve_skis(shop, given[0])
    return pass_days(shop, given[0])


def answer_asking(shop, number, given):
    """Answer a call that looks at what suits a guest."""
    if number == CODE:
        return tell_code(shop, given[0])
    if number == SETTING:
        return tell_setting(shop, given[0], given[1])
    return tell_ideal(shop, given[0])


def answer_begun(shop, number, given):
    """Answer a call on a shop that has begun, and has a chart where the call needs one."""
    if number <= BECOMES:
        return answer_stock(shop, number, given)
    if number <= DAYS:
        return answer_hires(shop, number, given)
    if number <= IDEAL:
        return answer_asking(shop, number, given)
    raise NoSuchCall(number)


def answer_call(line, number, given):
    """Answer one call of a line."""
    if number == BEGIN:
        return begin(line, given[0], given[1], given[2], given[3])
    if line.shop is None:
        return [NOT_BEGUN]
    if needs_chart(number) and line.shop.chart is None:
        return [NO_CHART]
    return answer_begun(line.shop, number, given)


def answers(calls):
    """For each call, in order: how many numbers are answered, then these."""
    line = Line()
    told = []
    for call in read_calls(calls):
        answer = answer_call(line, call[0], call[1])
        told.append(len(answer))
        told.extend(answer)
    return told
