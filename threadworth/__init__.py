"""Threadworth: sums of diagrams whose closed pieces have a worth."""
