"""A board of gauges: gaugeboard.board.answers does its calls."""
