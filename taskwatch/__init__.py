"""A station's watcher: tasks that report, and starts after a cut."""
