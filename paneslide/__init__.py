"""Putting up: which panes are in the way of which when they are slid into place one after another."""
