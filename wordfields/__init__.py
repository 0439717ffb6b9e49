"""Interfaces of words of bits: words are made of numbers, read again, and two interfaces compared."""
