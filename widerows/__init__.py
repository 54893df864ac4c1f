"""Widerows: deeds laid side by side in rows."""
