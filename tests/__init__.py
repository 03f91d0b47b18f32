"""The tests of Meetonce."""
