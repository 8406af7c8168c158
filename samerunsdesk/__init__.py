"""Programs of actions, choices, loops and tests, and which are the same."""
