"""Sharefold: terms worked out by sharing, and the families of steps."""
