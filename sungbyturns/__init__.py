"""Sungbyturns: songs whose refrains rotate through their verses."""
