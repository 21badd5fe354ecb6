"""What's kept how long: a cupboard of few places and the things that come."""
