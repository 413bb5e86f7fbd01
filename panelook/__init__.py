"""Panelook: panes over one another, and boards that are kept by shifting what still stands."""
