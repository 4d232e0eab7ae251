"""Seats on a train."""
