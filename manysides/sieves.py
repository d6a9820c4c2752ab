"""Sieves: the spans of expressions in a chunk, and papers that show them (chapter 09)."""

from manysides.expressions import both, either, kind_of, parts_of
from manysides.kinds import KINDS, TEXT_BOUND, greatest_of, is_before, is_between, is_value, least_of
from manysides.shapes import attr_index, dim_index

ALWAYS_MISSING = (None, None, True)
INT_WORDS = ("neg", "abs", "length", "add", "sub", "mul", "div", "mod")


def span_of(expression, shape, box, marks):
    """Returns the span of a right expression."""
    return paper_of(expression, shape, box, marks)[0]


def paper_of(expression, shape, box, marks):
    """Returns the paper of a right expression, with the spans that follow from its parts."""
    papers = tuple([paper_of(part, shape, box, marks) for part in parts_of(expression)])
    spans = [paper[0] for paper in papers]
    return (span_from(expression, shape, box, marks, spans), papers)


def shows(expression, shape, box, marks, paper):
    """Returns True if a paper shows its spans, otherwise False."""
    if not isinstance(paper, tuple) or len(paper) != 2:
        return False
    span, papers = paper
    parts = parts_of(expression)
    if not isinstance(papers, tuple) or len(papers) != len(parts) or not is_span(kind_of(expression, shape), span):
        return False
    for part, inner in zip(parts, papers):
        if not shows(part, shape, box, marks, inner):
            return False
    return encloses(span, span_from(expression, shape, box, marks, [inner[0] for inner in papers]))


def is_span(kind, span):
    """Returns True if something is a span of values of a kind, otherwise False."""
    if not isinstance(span, tuple) or len(span) != 3:
        return False
    least, greatest, missing = span
    if least is None and greatest is None:
        return missing is True
    if not is_value(kind, least) or not is_value(kind, greatest):
        return False
    return not is_before(greatest, least) and isinstance(missing, bool)


def encloses(outer, inner):
    """Returns True if a span allows whatever another one of the same kind allows, otherwise False."""
    if inner[2] and not outer[2]:
        return False
    if not has_ends(inner):
        return True
    return has_ends(outer) and not is_before(inner[0], outer[0]) and not is_before(outer[1], inner[1])


def has_ends(span):
    """Returns True if a span allows some value that is not missing, otherwise False."""
    return span[0] is not None


def allows(span, value):
    """Returns True if a value, or None, lies in a span, otherwise False."""
    least, greatest, missing = span
    if value is None:
        return missing
    return are_of_one_kind(value, least) and is_between(least, value, greatest)


def are_of_one_kind(first, second):
    """Returns True if two things are values of the same kind, and not missing, otherwise False."""
    return any([is_value(kind, first) and is_value(kind, second) for kind in KINDS])


def can_pass(paper):
    """Returns True if the span of a paper that shows its spans does not allow True."""
    return not allows(paper[0], True)


def span_from(expression, shape, box, marks, spans):
    """Returns the span of an expression that follows from the spans of its parts."""
    word = expression[0]
    if word == "value":
        return span_of_value(expression[2])
    if word == "attr":
        missing, least, greatest = marks[1][attr_index(shape, expression[1])]
        return (least, greatest, missing > 0)
    if word == "dim":
        least, greatest = box[dim_index(shape, expression[1])]
        return (least, greatest, False)
    if word in LOOSE_SPANS:
        loose = LOOSE_SPANS[word]
        return loose(*spans)
    return strict_span(word, spans)


def span_of_value(value):
    """Returns the span of a value that is always the same, or None."""
    if value is None:
        return ALWAYS_MISSING
    return (value, value, False)


def strict_span(word, spans):
    """Returns the span for a word whose value is missing wherever a part is missing."""
    if not all([has_ends(span) for span in spans]):
        return ALWAYS_MISSING
    strict = STRICT_SPANS[word]
    span = strict(*spans)
    least, greatest, missing = within_bounds(span) if word in INT_WORDS else span
    return (least, greatest, missing or any([part[2] for part in spans]))


def within_bounds(span):
    """Returns the span of integers that are missing where they are out of the bounds of their kind."""
    if not has_ends(span):
        return span
    least = max(span[0], least_of("int"))
    greatest = min(span[1], greatest_of("int"))
    if least > greatest:
        return ALWAYS_MISSING
    return (least, greatest, span[2] or least != span[0] or greatest != span[1])


def neg_span(part):
    """Returns the span of "neg"."""
    return (-part[1], -part[0], False)


def abs_span(part):
    """Returns the span of "abs"."""
    if part[0] >= 0:
        return (part[0], part[1], False)
    if part[1] < 0:
        return (-part[1], -part[0], False)
    return (0, max(-part[0], part[1]), False)


def length_span(part):
    """Returns the span of "length"."""
    if part[0] == part[1]:
        return (len(part[0]), len(part[0]), False)
    return (0, TEXT_BOUND, False)


def add_span(first, second):
    """Returns the span of "add"."""
    return (first[0] + second[0], first[1] + second[1], False)


def sub_span(first, second):
    """Returns the span of "sub"."""
    return (first[0] - second[1], first[1] - second[0], False)


def mul_span(first, second):
    """Returns the span of "mul"."""
    products = [one * other for one in first[:2] for other in second[:2]]
    return (min(products), max(products), False)


def div_span(first, second):
    """Returns the span of "div"."""
    divisors = ends_without_zero(second[0], second[1])
    if not divisors:
        return ALWAYS_MISSING
    quotients = [end // divisor for end in first[:2] for divisor in divisors]
    return (min(quotients), max(quotients), second[0] <= 0 <= second[1])


def ends_without_zero(least, greatest):
    """Returns the list of the ends of the negative integers of a range, and of those of the positive ones."""
    ends = []
    if least < 0:
        ends.extend([least, min(greatest, -1)])
    if greatest > 0:
        ends.extend([max(least, 1), greatest])
    return ends


def mod_span(first, second):
    """Returns the span of "mod"; it does not depend on the first part."""
    if second[0] == 0 and second[1] == 0:
        return ALWAYS_MISSING
    least = second[0] + 1 if second[0] < 0 else 0
    greatest = second[1] - 1 if second[1] > 0 else 0
    return (least, greatest, second[0] <= 0 <= second[1])


def not_span(part):
    """Returns the span of "not"."""
    return (not part[1], not part[0], False)


def joined_span(first, second):
    """Returns the span of "joined"."""
    if first[0] != first[1] or second[0] != second[1]:
        return (first[0], greatest_of("text"), True)
    text = first[0] + second[0]
    if len(text) > TEXT_BOUND:
        return ALWAYS_MISSING
    return (text, text, False)


def truth_span(can_be_true, can_be_false):
    """Returns the span of a truth value that is not missing; one of the two is possible."""
    return (not can_be_false, can_be_true, False)


def are_all_equal(first, second):
    """Returns True if two spans have just one value, the same one, otherwise False."""
    return first[0] == first[1] and second[0] == second[1] and first[0] == second[0]


def share_values(first, second):
    """Returns True if some value lies between the ends of both spans, otherwise False."""
    return first[0] <= second[1] and second[0] <= first[1]


def eq_span(first, second):
    """Returns the span of "eq"."""
    return truth_span(share_values(first, second), not are_all_equal(first, second))


def ne_span(first, second):
    """Returns the span of "ne"."""
    return truth_span(not are_all_equal(first, second), share_values(first, second))


def lt_span(first, second):
    """Returns the span of "lt"."""
    return truth_span(first[0] < second[1], first[1] >= second[0])


def le_span(first, second):
    """Returns the span of "le"."""
    return truth_span(first[0] <= second[1], first[1] > second[0])


def gt_span(first, second):
    """Returns the span of "gt"."""
    return lt_span(second, first)


def ge_span(first, second):
    """Returns the span of "ge"."""
    return le_span(second, first)


def is_missing_span(part):
    """Returns the span of "is missing"."""
    return truth_span(part[2], has_ends(part))


def and_span(first, second):
    """Returns the span of "and"."""
    return span_of_results([both(one, other) for one in truths_in(first) for other in truths_in(second)])


def or_span(first, second):
    """Returns the span of "or"."""
    return span_of_results([either(one, other) for one in truths_in(first) for other in truths_in(second)])


def truths_in(span):
    """Returns the list of the truth values in a span, and of None if it can be missing."""
    return [truth for truth in (False, True, None) if allows(span, truth)]


def span_of_results(truths):
    """Returns the span that holds just some truth values, which may be missing."""
    return holding([span_of_value(truth) for truth in truths])


def holding(spans):
    """Returns the span that holds just some spans, at least one."""
    ends = [span for span in spans if has_ends(span)]
    if not ends:
        return ALWAYS_MISSING
    missing = any([span[2] for span in spans])
    return (min([span[0] for span in ends]), max([span[1] for span in ends]), missing)


def if_span(condition, first, second):
    """Returns the span of "if"."""
    spans = []
    if allows(condition, True):
        spans.append(first)
    if allows(condition, False):
        spans.append(second)
    if condition[2]:
        spans.append(ALWAYS_MISSING)
    return holding(spans)


def or_else_span(first, second):
    """Returns the span of "or else"."""
    if not first[2]:
        return first
    least, greatest, _ = holding([first, second])
    return (least, greatest, second[2])


# The functions that find a span from those of the parts, for the words with parts: where all of them must have
# ends, and for the others.
STRICT_SPANS = {"neg": neg_span, "abs": abs_span, "not": not_span, "length": length_span, "add": add_span,
                "sub": sub_span, "mul": mul_span, "div": div_span, "mod": mod_span, "joined": joined_span,
                "eq": eq_span, "ne": ne_span, "lt": lt_span, "le": le_span, "gt": gt_span, "ge": ge_span}
LOOSE_SPANS = {"is missing": is_missing_span, "and": and_span, "or": or_span, "if": if_span,
               "or else": or_else_span}
