"""Topslip: trees of rows, their tops, and slips that tell a row by a top."""
