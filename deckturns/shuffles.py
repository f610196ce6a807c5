"""The calls on decks of cards; each answers a list of whole numbers."""


def shuffled(inwards, deck):
    """The deck after one perfect shuffle, as a new list."""
    half = len(deck) // 2
    cards = []
    for k in range(half):
        upper = deck[k]
        lower = deck[half + k]
        if inwards == 1:
            cards.append(lower)
            cards.append(upper)
        else:
            cards.append(upper)
            cards.append(lower)
    return cards


def perfect(inwards, deck):
    """0, then the deck after a perfect shuffle: out if inwards is 0, in if it is 1."""
    return [0] + shuffled(inwards, deck)


def order(inwards, n):
    """After how many perfect shuffles, one at the least, n new cards are new again."""
    new_cards = list(range(n))
    # The first shuffle comes ahead of the loop: cards that were never shuffled don't count as new again.
    deck = shuffled(inwards, new_cards)
    often = 1
    while deck != new_cards:
        deck = shuffled(inwards, deck)
        often = often + 1
    return [often]


def bring(n, place):
    """How many perfect shuffles bring the top card of n to that place, then they: 1 is in, 0 is out."""
    # How many cards there are makes no difference: till the last shuffle the card is in the upper half,
    # where a shuffle doubles its place, and an in shuffle adds one.
    bits = []
    rest = place
    while rest > 0:
        bits.append(rest % 2)
        rest = rest // 2
    bits.reverse()
    return [len(bits)] + bits


def counted(n, step):
    """0, then n new cards in the order in which they go when each step-th of a ring goes."""
    ring = list(range(n))
    gone = []
    start = 0
    for left in range(n, 0, -1):
        # A step may be far longer than the ring: whole rounds of it change nothing.
        place = (start + step - 1) % left
        gone.append(ring.pop(place))
        # The card behind the gone one has moved up to its place; behind the last one comes the first.
        start = place
    return [0] + gone


def marked(deck, marks):
    """0, then the deck after a shuffle by marks."""
    # Put in order, the marks tell which packet each card of the deck is cut into, so the first place of a mark
    # is where its packet's top card lies.
    tops = {}
    for place, mark in enumerate(sorted(marks)):
        tops.setdefault(mark, place)
    cards = []
    for mark in marks:
        cards.append(deck[tops[mark]])
        tops[mark] = tops[mark] + 1
    return [0] + cards


def put_in_order(deck, marks):
    """0, then the cards in the order of the marks at their places, those of like marks as they stand."""
    # Places of like marks stay as they stand, for Python's sorted keeps them so.
    places = sorted(range(len(deck)), key=lambda place: marks[place])
    return [0] + [deck[place] for place in places]


def rising(deck):
    """How many rising rows the deck has: the cards of which the one with the number below is not ahead of them."""
    ahead = {}
    rows = 0
    for card in deck:
        if card - 1 not in ahead:
            rows = rows + 1
        ahead[card] = True
    return [rows]


def ways(packets, deck):
    """In how many ways marks below packets make the deck of new cards, modulo 1000000007."""
    # From card to card, the marks at their places never fall, and where a new row begins they must rise.
    # With these rises taken away (one less than there are rows), any n numbers that never fall will do:
    # they are as many as the choices of n things out of packets + n - rows.
    n = len(deck)
    rows = rising(deck)[0]
    things = packets + n - rows
    choices = 1
    for k in range(n):
        # This division comes out even; after a modulo it wouldn't, so the modulo waits till the end.
        choices = choices * (things - k) // (k + 1)
    return [choices % 1000000007]


def gilbreath(deck):
    """1 if the deck comes of new cards when some top cards are laid off and shuffled once with the rest, else 0."""
    # The laid-off cards come falling, the rest rising, both from where the deck was parted: so the cards
    # that have come are always a row of numbers without a gap, and each next one lengthens it at an end.
    if len(deck) == 0:
        return [1]
    lowest = deck[0]
    highest = deck[0]
    for card in deck[1:]:
        if card == lowest - 1:
            lowest = card
        elif card == highest + 1:
            highest = card
        else:
            return [0]
    return [1]
