"""Rows of lumps pressed together by plans: see README.md."""
