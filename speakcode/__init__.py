"""Code for a small machine that speaks: read, shown in one form and verified ahead of time."""
