"""Circuits in step: how fast a circuit's clock may go, and where its registers go then."""
