"""Tests of whoacts."""
