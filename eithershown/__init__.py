"""Sentences of first order, their texts, derivations and finite worlds."""
