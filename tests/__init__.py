"""The tests of the project, and what they share."""
