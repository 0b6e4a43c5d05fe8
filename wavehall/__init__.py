"""Wavehall: the air's bands, who disturbs whom, and whose silence helps."""
