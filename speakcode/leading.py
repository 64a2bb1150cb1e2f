"""The spots to which an instruction leads, whether there are instructions at them or not."""

TO_NEXT = ("push", "get", "op", "set", "any", "send", "skip", "if")


# Only jump, skip, if, pick and go have spots of their own, and only recv has ways.
def leads_of(instruction, spot):
    leads = [spot + 1] if instruction.word in TO_NEXT else []
    leads.extend(instruction.spots)
    leads.extend([way.spot for way in instruction.ways])
    return leads
