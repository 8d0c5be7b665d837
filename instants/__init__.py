"""Streams by equations, instant by instant."""
