"""Ledalong: machines led along self-made worlds."""
