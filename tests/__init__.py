"""Tests of pagestrue."""
