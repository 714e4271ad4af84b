"""What's smelled when: which material of a mixture leads at which time."""
