"""Growurns: urns into which more is put back."""
