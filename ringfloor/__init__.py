"""Ringfloor: webs drawn on a floor that closes on itself both ways."""
