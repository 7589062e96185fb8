"""The tests of translatory."""
