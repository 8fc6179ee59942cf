"""Lostdesk: what was found, who lost it, and who gets what."""
