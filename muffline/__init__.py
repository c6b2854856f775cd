"""Muffline: sealed letters on an open road, judged for all runs."""
