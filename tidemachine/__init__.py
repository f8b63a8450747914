"""Tidehall: machines. The one function to call is tidemachine.desk.answers."""
