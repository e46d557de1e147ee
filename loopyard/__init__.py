"""Loopyard: one thread, one loop, and everything that waits on it."""
