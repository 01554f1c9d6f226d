"""The interface: the names, arguments and places that the document lists for the modules that landed."""

import ast
import unittest
from pathlib import Path

PACKAGE = Path(__file__).resolve().parent.parent / "nearestheld"
# In the order in which the modules should be written: each may use those above it.
INTERFACE = {
    "errors": "NearError CannotTell(step) NoCommand(line) NoLine(line) NoText(text) NotThere(value) Nothing "
              "TooMany(most) Undecided(step) Wrong(place)",
    "forms": "is_integer(thing) is_fraction(thing) is_format(thing) is_way(thing) are_flags(thing) "
             "is_number(form,thing) is_value(form,thing) is_outcome(form,thing) is_program(thing) is_plain(thing) "
             "is_span(form,thing) is_box(form,many,thing)",
    "fractions": "reduced(n,d) added(one,other) lessened(one,other) times(one,other) over(one,other) "
                 "total_of(fractions) size_of(one) power_of(base,e) compared(one,other) floor_of(one) "
                 "ceiling_of(one) nearest_integer(way,one)",
    "worths": "worth(form,number) number_of(form,fraction) zero(form,s) is_finite(value) is_zero(value) "
              "is_tiny(form,value) sign_of(value) opposite(value) size(value)",
    "orders": "order_of(form,x,other,y) less(form,x,y) same(form,x,y) in_order(form,values)",
    "rounding": "below(form,x) above(form,x) joined(outcomes) rounded(form,way,x,s) rounded_root(form,way,x) "
                "is_rounded(form,way,x,s,thing) unit_at(form,x) most_error(form,way,x)",
    "basic": "add(form,way,x,y) take(form,way,x,y) times(form,way,x,y) by(form,way,x,y)",
    "roots": "root(form,way,x) fused(form,way,x,y,z)",
    "rests": "rest(form,x,y) left_over(form,x,y) whole(form,way,x)",
    "scaling": "scale(form,way,x,n) least(form,x,y) greatest(form,x,y)",
    "formats": "greatest_number(form) least_normal(form) least_tiny(form) numbers_many(form) rank_of(form,value) "
               "steps_between(form,x,y) unit_of(form,number) numbers_of(form) value_at(form,rank) "
               "next_up(form,value) next_down(form,value)",
    "turning": "turned(form,way,other,value) from_integer(form,way,n) integer_of(form,way,value) "
               "is_within(form,other) lost_number(form,other)",
    "words": "is_decimal(thing) digit_text(base,n) digits_in(base,text) decimal_worth(decimal) trimmed(decimal) "
             "decimal_of(text) digits_many(decimal)",
    "reader": "read_decimal(form,way,decimal) read(form,way,text) reads_back(form,decimal,number) "
              "show_own(form,number) read_own(form,text)",
    "shortest": "stretch_of(form,number) fewer_paper(form,number) shortest(form,number) "
                "is_shortest(form,number,thing) is_fewer_paper(form,number,thing)",
    "shower": "told_digits(form,number,many,way) told_places(form,number,places,way) enough_digits(form) "
              "kept_digits(form)",
    "texts": "plain_text(decimal) marked_text(decimal) shortest_text(form,value)",
    "sums": "sum_of(form,way,values) dot_of(form,way,pairs) exact_sum(form,numbers)",
    "parted": "parted_sum(form,x,y) parted_product(form,x,y) parted_sum_of(form,values) "
              "is_parted_sum(form,values,thing)",
    "heap": "Heap(form)",
    "programs": "needed_steps(program) shortened(program) put_in(program,programs) show_program(program) "
                "read_program(text)",
    # A module of the program's own, which the document does not name.
    "reaches": "",
    "truth": "true_worths(program,inputs) true_worth(program,inputs) true_bounds(program,inputs,places)",
    "running": "run(program,form,way,values) result_of(program,form,way,values) error_at(program,form,way,values) "
               "worst_error(program,form,way,lists)",
    "spans": "span_of(form,low,high) whole_span() hull(form,one,other) meet(form,one,other) "
             "span_into(form,other,one) holds(form,one,x) lies_in(form,one,other) width_of(form,one) "
             "side_of(form,one,other)",
    "spanops": "span_result(form,word,spans)",
    "enclosed": "enclosed(program,form,box) result_within(program,form,box)",
    "parting": "middle_of(form,one) widest(form,box) parted_box(form,box,index) parted_result(program,form,box,deep)",
    "staying": "is_stay_paper(program,form,box,span,thing) is_leave_paper(program,form,box,span,thing) "
               "stay_paper(program,form,box,span,deep) leave_paper(program,form,box,span,deep) "
               "boxes_left(program,form,box,span,deep)",
    "errorpapers": "rule_kept(program,form,way,box,paper,index) far_of(form,span) near_of(form,span)",
    "judging": "is_paper(program,form,way,box,thing) broken_step(program,form,way,box,paper) "
               "widened(program,form,way,box,paper,index,more) bound_of(paper)",
    "bounding": "error_paper(program,form,way,box) error_bound(program,form,way,box)",
    "bench": "Bench(form,way)",
}
# The methods of each class, which stand in the class itself.
METHODS = {
    ("heap", "Heap"): "put(value) take_out(value) join(heap) undo() told(way) members() many() twin() __eq__(other)",
    ("bench", "Bench"): "execute(line) state() twin() __eq__(other)",
}


def tree_of(module):
    return ast.parse((PACKAGE / f"{module}.py").read_text())


def arguments_of(node):
    """The names of what a function, or a class when it is called, takes; None if it takes anything."""
    if isinstance(node, ast.FunctionDef):
        return [argument.arg for argument in node.args.args]
    makers = [part for part in node.body if isinstance(part, ast.FunctionDef) and part.name == "__init__"]
    return arguments_of(makers[0])[1:] if makers else None


class Interface(unittest.TestCase):
    def test_the_package_has_just_these_modules(self):
        found = sorted([path.name for path in PACKAGE.iterdir() if path.name != "__pycache__"])
        self.assertEqual(found, sorted([f"{module}.py" for module in INTERFACE] + ["__init__.py"]))
        self.assertEqual((PACKAGE / "__init__.py").read_bytes(), b"")

    def test_each_name_is_defined_in_its_file_with_its_arguments(self):
        for module, rows in INTERFACE.items():
            nodes = {node.name: node for node in tree_of(module).body if hasattr(node, "name")}
            for row in rows.split():
                name, _, rest = row.partition("(")
                with self.subTest(module=module, name=name):
                    self.assertIn(name, nodes)
                    expected = [word for word in rest.rstrip(")").split(",") if word] if rest else None
                    self.assertEqual(arguments_of(nodes[name]), expected)

    def test_each_method_is_defined_in_its_class(self):
        for (module, name), rows in METHODS.items():
            home = [node for node in tree_of(module).body if getattr(node, "name", None) == name][0]
            nodes = {node.name: node for node in home.body if isinstance(node, ast.FunctionDef)}
            for row in rows.split():
                method, _, rest = row.partition("(")
                with self.subTest(module=module, method=method):
                    expected = [word for word in rest.rstrip(")").split(",") if word]
                    self.assertEqual(arguments_of(nodes[method])[1:], expected)

    def test_a_module_uses_only_those_above_it(self):
        order = list(INTERFACE)
        for at, module in enumerate(order):
            for node in tree_of(module).body:
                if isinstance(node, ast.ImportFrom) and node.module != "math":
                    self.assertIn(node.module.removeprefix("nearestheld."), order[:at])


if __name__ == "__main__":
    unittest.main()
