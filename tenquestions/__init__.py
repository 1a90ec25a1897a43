"""Yes and no of ten questions: rules that say yes or no by the answers to ten questions."""
