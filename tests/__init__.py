"""The tests of shapebetween."""
