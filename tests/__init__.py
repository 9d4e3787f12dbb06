"""The tests of gridshapes."""
