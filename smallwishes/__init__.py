"""Wishes made small: puzzles of wishes and of gates."""
