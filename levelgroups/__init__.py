"""Groups by level: children grouped so that those in a group are about as good."""
