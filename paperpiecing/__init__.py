"""Paper piecing: which tops are sewn on one paper, patch behind patch, and in which order."""
