"""Orderwheel: a kitchen's notes on a wheel of clips."""
