"""Tests of guessedworlds."""
