"""Live stores: deeds and runs side by side, and groups that wait for readers."""
