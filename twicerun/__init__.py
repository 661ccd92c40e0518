"""Twicerun: spirit run twice, what is kept back put into the next run."""
