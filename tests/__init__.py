"""Tests of lumpplans: see README.md."""
