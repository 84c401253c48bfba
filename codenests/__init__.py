"""Codenests: codes modulo a prime, one within the other."""
