"""Stephall: an exchange of steppers, in which pulses lead calls."""
