"""Tests of ringcrown."""
