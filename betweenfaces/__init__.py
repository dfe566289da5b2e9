"""Betweenfaces: letters that change along axes, and every smaller design made of them."""
