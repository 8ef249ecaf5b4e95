"""Working out a feature: from its inputs to its state, its tool and the next solid."""

from partloft.bodies import body_of
from partloft.changes import changed, is_across_axis, pulled
from partloft.errors import FieldFault, ProfileFault
from partloft.faces import boundary_of, faces_of
from partloft.features import is_name_field, kind_form
from partloft.formulas import read_formula
from partloft.naming import makers_after, names_of
from partloft.repeating import mirror_of, ring_of, row_of
from partloft.solving import solve
from partloft.values import whole_number


class Stage:
    """A solid between two features, and the makers of its boundary facets."""

    def __init__(self, part, origins):
        self.part = part
        self.origins = origins


class Outcome:
    """The state and reason of a feature, its tool or None, and the stage behind it."""

    def __init__(self, status, cause, body, stage):
        self.status = status
        self.cause = cause
        self.body = body
        self.stage = stage


class Job:
    """A feature to be worked out, the stage before it, and what it is made from.

    The drawing, a sketch, and the other feature's tool are None if it is not made
    from such.
    """

    def __init__(self, number, row, stage, drawing, other_tool, values):
        self.number = number
        self.row = row
        self.stage = stage
        self.drawing = drawing
        self.other_tool = other_tool
        self.table = values
        self.gives = [self._given(k) for k in range(len(row.fields))]

    def inputs(self):
        """All that decides what the feature makes."""
        told = None
        if self.drawing is not None:
            told = _sketch_inputs(self.drawing, self.table)
        elif self.other_tool is not None:
            told = self.other_tool.grains()
        row = self.row
        return (self.stage.part.grains(), self.stage.origins, row.kind, row.op, row.of, self.gives, told)

    def _given(self, k):
        """What a field gives: a name, a whole number, or None."""
        item = self.row.fields[k]
        return item if is_name_field(self.row.kind, k) else whole_number(read_formula(item), self.table)


def work_out(job):
    """The outcome of a feature that is neither suppressed nor behind."""
    cause = _wrong_field(job)
    if cause is not None:
        return _failed(job, cause)
    try:
        body = _body(job)
        part = _part_behind(job, body)
    except FieldFault as field_fault:
        return _failed(job, ("field", field_fault.field))
    except ProfileFault as profile_fault:
        return _failed(job, ("profile", profile_fault.profile))
    if body is not None and body.many() == 0:
        return _failed(job, ("nothing",))
    if part.many() == 0:
        return _failed(job, ("empty",))
    made = Stage(part, makers_after(boundary_of(part), job.stage.origins, job.number))
    return Outcome("good", (), body if kind_form(job.row.kind)[2] else None, made)


def _failed(job, cause):
    return Outcome("failed", cause, None, job.stage)


def _wrong_field(job):
    """The reason of the first field that gives no whole number or names no face that can be pulled, or None."""
    for k in range(len(job.gives)):
        if job.gives[k] is None:
            return ("field", k)
        if is_name_field(job.row.kind, k) and _face_to_pull(job) is None:
            return ("name", k)
    return None


def _face_to_pull(job):
    """The face across an axis with the name in the first field, or None."""
    faces = faces_of(job.stage.part)
    names = names_of(faces, job.stage.origins)
    if job.gives[0] not in names:
        return None
    face = faces[names.index(job.gives[0])]
    return face if is_across_axis(face) else None


def _body(job):
    """The tool, or what a pull adds or takes away; None for the other kinds."""
    row = job.row
    if row.kind == "pull":
        return pulled(job.stage.part, _face_to_pull(job), job.gives[1])
    if not kind_form(row.kind)[2]:
        return None
    if job.other_tool is not None:
        return _repeated(row.kind, job.other_tool, job.gives)
    return body_of(job.stage.part.size, row.kind, job.gives, job.drawing, job.table, row.of)


def _repeated(kind, body, gives):
    if kind == "row":
        count, dx, dy, dz = gives
        return row_of(body, count, dx, dy, dz)
    if kind == "ring":
        axis, p, q, count = gives
        return ring_of(body, axis, p, q, count)
    return mirror_of(body, gives[0], gives[1])


def _part_behind(job, body):
    """The solid that the feature makes of the one before it."""
    row = job.row
    part = job.stage.part
    if row.kind == "pull":
        return part.united(body) if job.gives[1] > 0 else part.less(body)
    if body is None:
        return changed(row.kind, part, job.gives)
    if row.op == "unite":
        return part.united(body)
    return part.less(body) if row.op == "less" else part.common(body)


def _sketch_inputs(sketch, values):
    """What a feature that is made from a sketch depends on."""
    solution = solve(sketch, values)
    lines = sketch.lines()
    discs = sketch.discs()
    ends = [lines[line] for line in sorted(list(lines))]
    rounds = []
    for disc in sorted(list(discs)):
        point, text = discs[disc]
        rounds.append((point, whole_number(read_formula(text), values)))
    return (sketch.axis(), sketch.offset(), solution.state, solution.places, ends, rounds)
