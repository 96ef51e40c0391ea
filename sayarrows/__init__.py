"""Sayarrows: machines over endless letters, with sayings on their arrows."""
