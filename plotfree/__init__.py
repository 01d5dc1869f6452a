"""Plotfree: values on plots that are given back whole."""
