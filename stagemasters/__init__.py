"""Stagehall, layer d: masters."""
