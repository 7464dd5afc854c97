"""Guessedworlds: one world played from afar, shown by guesses, settled to the bit."""
