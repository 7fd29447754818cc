"""leastpass: least cards passed by a plan."""
