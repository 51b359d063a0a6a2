"""What all layings of a program at a home have in common."""

from romwright.forms import aligned, shaped
from romwright.order import greatest_of
from romwright.script import Free, Overlay, Part, Place


class Frame:
    """Where everything lies but the free places, and what is to be packed."""

    def __init__(self, picked, home):
        script = picked.script
        program = picked.program
        self.shapes = {place.name: shaped(program, picked.in_place(place.name), place.align)
                       for place in script.places}
        bases = [base_of(region, home) for region in script.regions]
        self.bases = tuple(bases)
        self.sizes = {name: self.shapes[name].size for name in self.shapes}
        self.aligns = {name: self.shapes[name].align for name in self.shapes}
        for overlay in script.overlays:
            names = parts_of(script, overlay.name)
            self.sizes[overlay.name] = greatest_of([self.sizes[name] for name in names])
            self.aligns[overlay.name] = greatest_of([self.aligns[name] for name in names])
        # The first addresses at run and at load, without the free places.
        self.starts = {}
        self.loads = {}
        rooms = []
        for region, base in zip(script.regions, bases):
            end = self.lay_running(script, region.name, base)
            end = self.lay_loaded(script, region.name, end)
            rooms.append((end, base + region.length))
        for overlay in script.overlays:
            names = parts_of(script, overlay.name)
            self.loads[overlay.name] = self.loads[names[0]]
            for name in names:
                self.starts[name] = self.starts[overlay.name]
        self.free = tuple([place for place in script.places if isinstance(place, Free)])
        self.rooms = tuple(rooms)
        self.things = tuple([(self.sizes[place.name], self.aligns[place.name]) for place in self.free])
        names = [region.name for region in script.regions]
        self.choices = tuple([tuple([names.index(name) for name in place.regions]) for place in self.free])

    def lay_running(self, script, region, end):
        """Lays what runs in a region, from an address on; the end."""
        for each in script.statements:
            if isinstance(each, (Place, Overlay)) and each.region == region:
                self.starts[each.name] = aligned(end, self.aligns[each.name])
                end = self.starts[each.name] + self.sizes[each.name]
        return end

    def lay_loaded(self, script, region, end):
        """Lays what is loaded from a region; the end."""
        for each in script.statements:
            if load_region(script, each) == region:
                self.loads[each.name] = end
                end = end + self.sizes[each.name]
        return end


def base_of(region, home):
    return region.start + home if region.kind == "rom" else region.start


def parts_of(script, overlay):
    """The names of the parts of an overlay, in order."""
    return [place.name for place in script.places if isinstance(place, Part) and place.overlay == overlay]


def load_region(script, statement):
    """The name of the region from which a place or a part is loaded, or None."""
    if isinstance(statement, Part):
        return script[statement.overlay].load
    return statement.load if isinstance(statement, Place) else None
