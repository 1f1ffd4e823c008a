"""A climbing wall: holds, routes, climbers, and who gets up what by which moves."""
