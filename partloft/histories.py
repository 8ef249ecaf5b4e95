"""Histories: sketches and features in an order, and the solid that they make."""

from partloft.errors import TooMany
from partloft.faces import faces_of
from partloft.features import Feature, is_field, kind_form, ops_of
from partloft.naming import names_of
from partloft.refusals import (
    FeatureUsed, InvalidFeature, InvalidField, InvalidOrder, NoSuchFeature, NoSuchSketch,
)
from partloft.sketches import Sketch
from partloft.solids import empty
from partloft.values import Values
from partloft.working import Job, Outcome, Stage, work_out

MOST_SKETCHES = 6
MOST_FEATURES = 24


class History:
    """The features of a part in a room, with the values and sketches that they are made from."""

    def __init__(self, size):
        self._stage = Stage(empty(size), {})
        self.size = size
        self._table = Values()
        self._sketches = []
        self._features = {}
        self._order = []
        self._next = 0
        # What the latest rebuild made of each feature of that time.
        self._outcomes = {}
        # The inputs and the outcome of each feature when it was worked out last.
        self._memory = {}

    def value_table(self):
        """The values, the object itself."""
        return self._table

    def add_sketch(self, axis, offset):
        """The number of a new sketch."""
        sketch = Sketch(axis, offset)
        if len(self._sketches) == MOST_SKETCHES:
            raise TooMany("sketches")
        self._sketches.append(sketch)
        return len(self._sketches) - 1

    def sketch(self, number):
        """A sketch, the object itself."""
        self._check_sketch(number)
        return self._sketches[number]

    def sketch_count(self):
        """How many sketches there are."""
        return len(self._sketches)

    def add_feature(self, kind, op, of, fields):
        """The number of a new feature, the last one in the order."""
        form, count, _ = kind_form(kind)
        if op not in ops_of(kind):
            raise InvalidFeature("op")
        self._check_of(form, of)
        if len(fields) != count:
            raise InvalidFeature("fields")
        for k in range(count):
            if not is_field(kind, k, fields[k]):
                raise InvalidField(k)
        number = self._next
        if number == MOST_FEATURES:
            raise TooMany("features")
        self._next += 1
        self._features[number] = Feature(kind, op, of, fields, False)
        self._order.append(number)
        return number

    def set_field(self, feature, k, item):
        """Gives a field another formula or name."""
        self._check_feature(feature)
        row = self._features[feature]
        if not 0 <= k < len(row.fields) or not is_field(row.kind, k, item):
            raise InvalidField(k)
        row.fields = row.fields[:k] + (item,) + row.fields[k + 1:]

    def suppress(self, feature, on):
        """Suppresses a feature or brings it back; True if that changed anything."""
        self._check_feature(feature)
        row = self._features[feature]
        before = row.suppressed
        row.suppressed = on
        return before != on

    def put(self, feature, place):
        """Moves a feature to a place in the order."""
        self._check_feature(feature)
        if not 0 <= place < len(self._order):
            raise InvalidOrder(place)
        order = [number for number in self._order if number != feature]
        order.insert(place, feature)
        if not self._is_possible(order):
            raise InvalidOrder(place)
        self._order = order

    def drop(self, feature):
        """Takes a feature out, if no other one is made from it."""
        self._check_feature(feature)
        for row in self._features.values():
            if row.source() == feature:
                raise FeatureUsed(feature)
        del self._features[feature]
        self._order.remove(feature)

    def order(self):
        """The list of the features in their order."""
        return list(self._order)

    def feature(self, number):
        """A feature as (kind, op, of, fields)."""
        self._check_feature(number)
        row = self._features[number]
        return (row.kind, row.op, row.of, row.fields)

    def is_suppressed(self, feature):
        """True if a feature is suppressed."""
        self._check_feature(feature)
        return self._features[feature].suppressed

    def rebuild(self):
        """Makes the solid anew; the list of the features that were worked out."""
        stage = Stage(empty(self.size), {})
        outcomes = {}
        worked = []
        for number in self._order:
            status = self._idle_status(number, outcomes)
            if status is not None:
                outcomes[number] = Outcome(status, (), None, stage)
            else:
                job = self._job(number, stage, outcomes)
                inputs = job.inputs()
                if number not in self._memory or self._memory[number][0] != inputs:
                    self._memory[number] = (inputs, work_out(job))
                    worked.append(number)
                outcomes[number] = self._memory[number][1]
            stage = outcomes[number].stage
        self._outcomes = outcomes
        self._stage = stage
        return worked

    def solid(self):
        """The solid after the latest rebuild."""
        return self._stage.part

    def solid_after(self, feature):
        """The solid behind a feature, as the latest rebuild left it."""
        return self._outcome(feature).stage.part

    def state(self, feature):
        """The state of a feature, as the latest rebuild left it."""
        return self._outcome(feature).status

    def reason(self, feature):
        """The reason of this state, a tuple."""
        return self._outcome(feature).cause

    def tool(self, feature):
        """The tool of a feature, or None."""
        return self._outcome(feature).body

    def makers(self):
        """A dict from the boundary facets of the solid to their makers."""
        origins = self._stage.origins
        return {facet: origins[facet] for facet in origins}

    def names(self):
        """The list of the names of the faces of the solid."""
        return names_of(faces_of(self._stage.part), self._stage.origins)

    def face_named(self, name):
        """The number of the face with a name, or None."""
        names = self.names()
        return names.index(name) if name in names else None

    def parts(self):
        """The sketches, the features, the order and the number of the next feature."""
        rows = []
        for number in sorted(list(self._features)):
            row = self._features[number]
            rows.append((number, row.kind, row.op, row.of, row.fields, row.suppressed))
        return ([sketch.copy() for sketch in self._sketches], rows, list(self._order), self._next)

    def take_over(self, parts):
        """Has the parts of a history instead of its own; nothing is rebuilt yet."""
        sketches, rows, order, following = parts
        self._sketches = [sketch.copy() for sketch in sketches]
        self._features = {}
        for number, kind, op, of, fields, suppressed in rows:
            self._features[number] = Feature(kind, op, of, fields, suppressed)
        self._order = list(order)
        self._next = following
        self._stage = Stage(empty(self.size), {})
        self._outcomes = {}
        self._memory = {}

    def _check_sketch(self, number):
        if not 0 <= number < len(self._sketches):
            raise NoSuchSketch(number)

    def _check_feature(self, number):
        if number not in self._features:
            raise NoSuchFeature(number)

    def _check_of(self, form, of):
        """Refuses what the of of a feature cannot be."""
        if form == "none" and of is not None:
            raise InvalidFeature("of")
        if form == "axis" and of not in (0, 1, 2):
            raise InvalidFeature("of")
        if form == "sketch":
            self._check_sketch(of)
        if form == "feature":
            self._check_feature(of)
            if not kind_form(self._features[of].kind)[2]:
                raise InvalidFeature("tool")

    def _is_possible(self, order):
        """True if each feature stands after the one that its tool is made from."""
        seen = {None: True}
        for number in order:
            if self._features[number].source() not in seen:
                return False
            seen[number] = True
        return True

    def _idle_status(self, number, outcomes):
        """The state of a feature that is not worked out in this rebuild, or None."""
        row = self._features[number]
        if row.suppressed:
            return "suppressed"
        source = row.source()
        return "behind" if source is not None and outcomes[source].status != "good" else None

    def _job(self, number, stage, outcomes):
        """What there is to do for a feature in a rebuild."""
        row = self._features[number]
        sketch_number = row.sketch_number()
        source = row.source()
        drawing = None if sketch_number is None else self._sketches[sketch_number]
        other_tool = None if source is None else outcomes[source].body
        return Job(number, row, stage, drawing, other_tool, self._table)

    def _outcome(self, feature):
        """What the latest rebuild made of a feature that is still there."""
        if feature not in self._features or feature not in self._outcomes:
            raise NoSuchFeature(feature)
        return self._outcomes[feature]
