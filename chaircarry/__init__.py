"""Two rooms that share chairs: how many chairs a plan of meetings carries."""
