"""Parts out of a score: see partscores.desk for what may be asked."""
