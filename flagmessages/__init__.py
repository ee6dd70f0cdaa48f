"""Messages by flags: what rows of signs tell by a code book, messages composed of them, and showings read."""
