"""Programs whose hands lock things, and why none waits for ever."""
