"""Typedcurve: any curve of the plane that is typed, drawn by a machine of bars and pins."""
