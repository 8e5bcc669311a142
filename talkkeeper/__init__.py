"""A conversation kept, whole: what one party of a script may say now, and whom it waits for."""
