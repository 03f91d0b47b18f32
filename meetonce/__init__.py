"""Meetonce: a route guide in which nobody parts and meets again."""
