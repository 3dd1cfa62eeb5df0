"""Twicecalls: calls that may be tried twice over two lanes, and are done once."""
