"""Paper piecing: which tops are sewn on one paper, patch behind patch, in which orders, and how few papers do."""
