"""Ramet: machines that build machines."""
