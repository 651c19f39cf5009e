"""Where water comes in a hall of pipes, which valves keep it away, and where it stays."""
