"""Tasks, locks, buses and plans that keep what was promised ahead."""
