"""What comes back: texts go out in packages to be translated, and nothing that comes back is lost."""
