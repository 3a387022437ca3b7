"""The tests of Queuemill."""
