"""The tests of tanglemoves."""
