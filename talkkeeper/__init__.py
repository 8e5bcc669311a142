"""A conversation kept, whole: what one party of a script may say now, whom it waits for, and what it has heard."""
