"""Sets opened and shut: who is in which set, by which of the names that come round again."""
