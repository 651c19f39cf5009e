"""Where water comes in a hall of pipes, and which valves keep it away."""
