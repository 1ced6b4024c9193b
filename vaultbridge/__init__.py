"""Vaultbridge: moving tokens between two ledgers that fork."""
