"""Which lever to pull: what several machines are worth, pulled one at a time."""
