"""Answercut: what an answer hangs on."""
