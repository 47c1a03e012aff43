"""Paper piecing: which tops are sewn on one paper, patch behind patch, in which orders, and what may be last."""
