"""Which days a hire has, and what is taken or out because of it."""

from skihire.records import BOOKED, OUT


def last_day(hire):
    """The last day that was booked."""
    return hire.day + hire.days - 1


def days_late(hire, today):
    """How many days have gone since the hire's last one."""
    return max(0, today - last_day(hire))


def last_day_had(hire, today):
    """The last day on which the hire has its things."""
    if hire.state == OUT:
        # What isn't back by its last day can't be somebody else's today.
        return max(last_day(hire), today)
    return last_day(hire)


def has_some_day(hire, first, last, today):
    """Whether the hire takes its things on some day from first to last."""
    if hire.state != BOOKED and hire.state != OUT:
        return False
    return hire.day <= last and first <= last_day_had(hire, today)


def ski_taken(shop, s, first, last):
    """Whether skis are taken on some day from first to last."""
    for hire in shop.hires:
        if hire.ski == s and has_some_day(hire, first, last, shop.today):
            return True
    return False


def boot_taken(shop, b, first, last):
    """Whether boots are taken on some day from first to last."""
    for hire in shop.hires:
        if hire.boot == b and has_some_day(hire, first, last, shop.today):
            return True
    return False


def ski_out(shop, s):
    """Whether skis are out."""
    for hire in shop.hires:
        if hire.ski == s and hire.state == OUT:
            return True
    return False


def boot_out(shop, b):
    """Whether boots are out."""
    for hire in shop.hires:
        if hire.boot == b and hire.state == OUT:
            return True
    return False
