"""Names that came most often, kept in few drawers."""
