"""Twomeet: kinds told in part, written into a small core."""
