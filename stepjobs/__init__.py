"""A house's jobs in time. The calls are answered by stepjobs.house.answers."""
