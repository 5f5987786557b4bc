"""Timebonds: times bound by one another."""
