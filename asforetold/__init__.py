"""Plans of concurrent tasks that run exactly as foretold."""
