"""Skyframes: tellings from far away, in frames."""
