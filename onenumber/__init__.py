"""Onenumber: plans of unlike kinds, each told as one plain list, its ladder."""
