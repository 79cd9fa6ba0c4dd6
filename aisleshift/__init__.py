"""Aisleshift: shelves on rails with one aisle among them, and the least shifts."""
