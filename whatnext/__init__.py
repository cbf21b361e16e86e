"""Whatnext: asks that are handed what comes next."""
