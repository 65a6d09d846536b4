"""Polynomials modulo a small prime that are not nought somewhere on a grid."""
