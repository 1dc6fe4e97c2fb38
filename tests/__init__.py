"""Tests of ropesheld."""
