"""What hires cost."""

from skihire.taking import days_late


def price_of(shop, days):
    """What so many days cost."""
    return shop.first + shop.more * (days - 1)


def hire_costs(shop, hire):
    """What a hire pays if it comes back today; all booked days are paid, even if it's early."""
    return price_of(shop, hire.days) + shop.fine * days_late(hire, shop.today)
