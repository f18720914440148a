"""Tests of seatwave."""
