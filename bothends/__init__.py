"""Machines that read words from both ends at once, inward."""
