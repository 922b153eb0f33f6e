"""A candle maker's dipping: frames, one vat, and a minute to a dip."""
