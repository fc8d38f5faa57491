"""Flowpapers: flows in the plane, with papers."""
