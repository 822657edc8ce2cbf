"""The 65816, whole: sixteenbits.machine.answers(calls) answers a list of calls on one machine."""
