"""The calls on decks of cards; each answers a list of whole numbers."""


def shuffled(inwards, deck):
    """The deck after one perfect shuffle, as a new list."""
    half = len(deck) // 2
    cards = []
    for k in range(half):
        upper = deck[k]
        lower = deck[half + k]
        if inwards == 1:
            cards.append(lower)
            cards.append(upper)
        else:
            cards.append(upper)
            cards.append(lower)
    return cards


def perfect(inwards, deck):
    """0, then the deck after a perfect shuffle: out if inwards is 0, in if it is 1."""
    return [0] + shuffled(inwards, deck)


def order(inwards, n):
    """After how many perfect shuffles, one at the least, n new cards are new again."""
    new_cards = list(range(n))
    # The first shuffle comes ahead of the loop: cards that were never shuffled don't count as new again.
    deck = shuffled(inwards, new_cards)
    often = 1
    while deck != new_cards:
        deck = shuffled(inwards, deck)
        often = often + 1
    return [often]
