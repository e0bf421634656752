"""The shop's one door: a list of calls goes in, a list of answers comes out."""

from skihire.asking import tell_boots, tell_choices, tell_code, tell_could, tell_ideal, tell_longest, tell_setting
from skihire.asking import tell_skis
from skihire.booking import book_hire, cancel_hire, swap_skis
from skihire.books import tell_bill, tell_busy, tell_due, tell_look, tell_plan, tell_price, tell_state, tell_sums
from skihire.books import tell_worn
from skihire.counter import give_out, pass_days, serve_skis, take_back
from skihire.reading import BACK, BECOMES, BEGIN, BILL, BOOT, BOOTS, BUSY, CANCEL, CHART, CHOICES, CODE, COULD, DAYS
from skihire.reading import DUE, GIVE, GUEST, HIRE, IDEAL, LONGEST, LOOK, PLAN, PRICE, SERVE, SETTING, SKI, SKIS
from skihire.reading import SUMS, SWAP, WORN, needs_chart, read_calls
from skihire.records import Line
from skihire.refusals import NO_CHART, NOT_BEGUN
from skihire.stock import add_boot, add_guest, add_ski, begin, change_guest, put_chart


def answer_stock(shop, number, given):
    """Answer a call that says what there is."""
    if number == CHART:
        return put_chart(shop, given[0], given[1], given[2], given[3])
    if number == SKI:
        return add_ski(shop, given[0], given[1], given[2], given[3])
    if number == BOOT:
        return add_boot(shop, given[0], given[1])
    if number == GUEST:
        return add_guest(shop, given[0], given[1], given[2], given[3], given[4])
    return change_guest(shop, given[0], given[1], given[2], given[3], given[4])


def answer_hires(shop, number, given):
    """Answer a call about a hire, the service or the days."""
    if number == HIRE:
        return book_hire(shop, given[0], given[1], given[2], given[3])
    if number == CANCEL:
        return cancel_hire(shop, given[0])
    if number == GIVE:
        return give_out(shop, given[0])
    if number == BACK:
        return take_back(shop, given[0])
    if number == SERVE:
        return serve_skis(shop, given[0])
    return pass_days(shop, given[0])


def answer_asking(shop, number, given):
    """Answer a call that looks at what suits a guest, or what they could hire."""
    if number == CODE:
        return tell_code(shop, given[0])
    if number == SETTING:
        return tell_setting(shop, given[0], given[1])
    if number == IDEAL:
        return tell_ideal(shop, given[0])
    if number == BOOTS:
        return tell_boots(shop, given[0])
    if number == SKIS:
        return tell_skis(shop, given[0], given[1])
    if number == COULD:
        return tell_could(shop, given[0], given[1], given[2], given[3])
    if number == CHOICES:
        return tell_choices(shop, given[0], given[1], given[2], given[3])
    return tell_longest(shop, given[0], given[1], given[2])


def answer_books(shop, number, given):
    """Answer a call that looks at hires, days, prices or wear."""
    if number == PLAN:
        return tell_plan(shop, given[0])
    if number == DUE:
        return tell_due(shop)
    if number == BUSY:
        return tell_busy(shop, given[0])
    if number == BILL:
        return tell_bill(shop, given[0])
    if number == PRICE:
        return tell_price(shop, given[0])
    if number == WORN:
        return tell_worn(shop)
    if number == LOOK:
        return tell_look(shop, given[0])
    if number == SUMS:
        return tell_sums(shop)
    return tell_state(shop)


def answer_begun(shop, number, given):
    """Answer a call on a shop that has begun, and has a chart where the call needs one."""
    if number <= BECOMES:
        return answer_stock(shop, number, given)
    if number <= DAYS:
        return answer_hires(shop, number, given)
    if number <= LONGEST:
        return answer_asking(shop, number, given)
    if number == SWAP:
        return swap_skis(shop, given[0], given[1])
    return answer_books(shop, number, given)


def answer_call(line, number, given):
    """Answer one call of a line."""
    if number == BEGIN:
        return begin(line, given[0], given[1], given[2], given[3])
    if line.shop is None:
        return [NOT_BEGUN]
    if needs_chart(number) and line.shop.chart is None:
        return [NO_CHART]
    return answer_begun(line.shop, number, given)


def answers(calls):
    """For each call, in order: how many numbers are answered, then these."""
    line = Line()
    told = []
    for call in read_calls(calls):
        answer = answer_call(line, call[0], call[1])
        told.append(len(answer))
        told.extend(answer)
    return told
