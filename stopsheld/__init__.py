"""stopsheld: a small compiler, and a debugger that tells the program's variables at each stop."""
