"""One side of a stream: what it is told, and which segments it says are to be sent."""
