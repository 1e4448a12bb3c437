"""A poem's drafts, on which several hands work."""
