"""Thirtybits: big integers, digit by digit."""
