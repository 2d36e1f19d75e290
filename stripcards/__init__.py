"""A detector's cards, read bit by bit: see stripcards.cards.answers."""
