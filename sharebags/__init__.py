"""Sharebags: bags of beads that are poured together and parted."""
