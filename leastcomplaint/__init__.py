"""Dividing what partners earn together so that complaints are least."""
