"""The tests of headerfold."""
