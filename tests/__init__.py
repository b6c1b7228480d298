"""Tests of sameround."""
