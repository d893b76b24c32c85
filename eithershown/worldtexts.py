"""Worlds and their texts."""

from eithershown.errors import BadWorld
from eithershown.reader import Reader, fault_of
from eithershown.signatures import check_names
from eithershown.worldlines import MOST_THINGS, WorldReader, world_lines
from eithershown.worlds import world_fault


def world_text(names, world):
    check_names(names)
    if world_fault(names, world) is not None or world[0] > MOST_THINGS:
        raise BadWorld(world)
    return world_lines(world)


def read_world(names, text):
    check_names(names)
    return WorldReader(Reader(text, False), names).read()


def world_text_fault(names, text):
    return fault_of(lambda: read_world(names, text))
