"""Messages by flags: what rows of signs tell by a code book, and messages composed of them, out of one locker."""
