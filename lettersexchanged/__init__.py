"""Letters exchanged: what can have been written, if each letter was exchanged for another."""
