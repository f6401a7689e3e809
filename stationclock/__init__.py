"""A station's clock: between what the time is, and one time that never goes back."""
