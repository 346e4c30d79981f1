"""Lettertree: neighbours on a web who find its least tree by letters alone."""
