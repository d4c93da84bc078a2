"""Escrowbook: amounts set aside for pacts that may fall through."""
