"""Verifying: which spots are known, with which shapes, and the first fault."""

from speakcode.faults import LEADS_BEYOND, OTHER_SHAPE, SILENT_ROUND, ShapeFault
from speakcode.leading import leads_of
from speakcode.shapes import Shape, same_shape, shapes_behind

LOUD = ("send", "recv", "stop")


# known is in the order in which spots came to be known; a fault of 0 is none.
class Verdict:
    def __init__(self):
        self.fault = 0
        self.spot = 0
        self.known = [0]
        self.shapes = {0: Shape((), ())}


def verdict_of(code):
    verdict = Verdict()
    position = 0
    while position < len(verdict.known):
        spot = verdict.known[position]
        try:
            go_along(verdict, code.instructions, spot)
        except ShapeFault as fault:
            return faulty(verdict, fault.number, spot)
        position += 1
    return without_rounds(verdict, code.instructions)


def faulty(verdict, number, spot):
    verdict.fault = number
    verdict.spot = spot
    return verdict


def go_along(verdict, instructions, spot):
    instruction = instructions[spot]
    leads = leads_of(instruction, spot)
    behind = shapes_behind(instruction, verdict.shapes[spot], leads)
    for lead, shape in zip(leads, behind):
        if lead >= len(instructions):
            raise ShapeFault(LEADS_BEYOND)
        if lead not in verdict.shapes:
            verdict.known.append(lead)
            verdict.shapes[lead] = shape
        elif not same_shape(verdict.shapes[lead], shape):
            raise ShapeFault(OTHER_SHAPE)


def without_rounds(verdict, instructions):
    for spot in verdict.known:
        if comes_back(instructions, spot):
            return faulty(verdict, SILENT_ROUND, spot)
    return verdict


def comes_back(instructions, spot):
    reached = {}
    waiting = silent_leads(instructions, spot)
    while len(waiting) > 0:
        lead = waiting.pop()
        if lead == spot:
            return True
        if lead not in reached:
            reached[lead] = True
            waiting.extend(silent_leads(instructions, lead))
    return False


def silent_leads(instructions, spot):
    if instructions[spot].word in LOUD:
        return []
    return leads_of(instructions[spot], spot)
