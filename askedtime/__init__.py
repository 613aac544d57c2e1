"""The time, asked of others: askedtime.desk.answers(calls) is the way in."""
