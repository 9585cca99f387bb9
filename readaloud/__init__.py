"""Rows read aloud: readaloud.desk.answers(calls) takes the calls."""
