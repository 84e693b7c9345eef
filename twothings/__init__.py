"""What can't be told: can the points of one picture be those of another, seen from somewhere?"""
