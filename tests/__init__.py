"""Tests of the package staybounds."""
