"""Endtellers: by which means the end of an endless row is told."""
