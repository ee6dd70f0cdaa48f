"""Messages by flags: what rows of signs tell by a code book, out of one locker."""
