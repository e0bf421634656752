"""Skis and boots hired out: what suits whom, what is booked, given out and brought back."""
