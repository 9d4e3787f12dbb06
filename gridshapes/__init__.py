"""Gridshapes: where shapes with corners at grid points stand to each other."""
