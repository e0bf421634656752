"""The pairs of skis and boots that could be hired, and the best of them."""

from skihire.fitting import binding_setting, boots_suit, boots_too_long, length_off, skis_suit
from skihire.taking import boot_taken, ski_taken


def fitting_boots(shop, guest, first, last):
    """The numbers of the boots that suit and aren't taken from first to last, rising."""
    found = []
    for b in range(len(shop.boots)):
        if boots_suit(shop.boots[b], guest) and not boot_taken(shop, b, first, last):
            found.append(b)
    return found


def free_skis(shop, kind, first, last):
    """The numbers of the skis of a kind that aren't taken from first to last, rising."""
    found = []
    for s in range(len(shop.skis)):
        if shop.skis[s].kind == kind and not ski_taken(shop, s, first, last):
            found.append(s)
    return found


def pairs_to_hire(shop, guest, first, last, kind):
    """The pairs that could be hired, (skis, boots) each, by boots, then skis, rising."""
    skis = free_skis(shop, kind, first, last)
    pairs = []
    for b in fitting_boots(shop, guest, first, last):
        setting = binding_setting(shop.chart, guest, shop.boots[b])
        for s in skis:
            if skis_suit(shop.skis[s], guest, setting):
                pairs.append((s, b))
    return pairs


def pair_rank(shop, guest, pair):
    """What pairs are compared by: the lesser, the better."""
    ski = shop.skis[pair[0]]
    boot = shop.boots[pair[1]]
    return (boots_too_long(boot, guest), length_off(ski, guest), ski.used, pair[1], pair[0])


def best_pair(shop, guest, pairs):
    """The best of some pairs."""
    best = pairs[0]
    for pair in pairs:
        if pair_rank(shop, guest, pair) < pair_rank(shop, guest, best):
            best = pair
    return best
