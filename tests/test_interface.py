"""Each name of the interface is defined in its own file, with its arguments under their names."""

import importlib
import inspect
import unittest

FUNCTIONS = {
    "leastspare.disks": """count(disk) is_filling(disk,value) number_of(disk,filling) filling_at(disk,number)
        line(disk,filling,block) all_lines(disk) written(disk,filling,write) class_of(disk,content)""",
    "leastspare.layouts": """disk_of(layout) roles(layout) is_told(layout,value) is_wish(layout,value)
        granted(layout,told,wish) distance(layout,one,other) wish_between(layout,one,other)
        all_wishes(layout,told)""",
    "leastspare.lots": """is_lot(layout,value) lots(layout) lot_at(layout,number) lot_number(layout,lot)
        code_of(layout,lot) lot_told(layout,codes) lot_for(layout,wish)""",
    "leastspare.plans": "read(layout,filling) plan(layout,filling,wish)",
    "leastspare.histories": """is_history(layout,value) could_be(layout,start,events) is_right(layout,start,events)
        first_wrong(layout,start,events)""",
    "leastspare.examiner": """left_by(disk,filling,groups,*,torn=True) examine(layout,filling,wish,*,torn=True)
        first_other(layout,filling,wish,groups,*,torn=True)
        is_done_by(layout,filling,wish,groups,*,torn=True)""",
    "leastspare.books": """wishes_of(book,value) is_two_way(book) parts(book) any_to_any(count) star(leaves)
        ring(count) row(count)""",
    "leastspare.tables": "value_at(table,filling) book_of(layout) table_of(layout)",
    "leastspare.judge": """safe(table,book,*,torn=True) keeps(table,book,*,torn=True) struck(table,book,*,torn=True)
        refutation(table,book,*,torn=True) is_refutation(table,book,value,*,torn=True)
        way(table,book,number,other,*,torn=True) is_way(table,book,number,other,value,*,torn=True)""",
    "leastspare.writers": """is_run(table,book,writer,start,value) breaks(table,book,writer,start,value)
        breaking_run(table,book,writer,start) writer_for(table,book)""",
    "leastspare.counting": """wishes(records,changes,contents) least_needed(records,changes,contents)
        enough(records,changes,contents) is_above(records,changes,contents) line_count(disk) most_values(disk)
        pair_lines(table,book) own_lines(table)""",
    "leastspare.twoblocks": "shape_of(book) two_blocks(book,contents) tables_of_two(shape,contents)",
    "leastspare.anytoany": """copies_table(half,contents) greatest_any(blocks,contents) any_table(blocks,contents)
        by_classes(table,contents)""",
    "leastspare.webs": """web_of(disk) homes(web,values) safe_homes(web,values,book) web_keeps(web,values,book)
        web_rings(web) book_rings(book) ring_values(web,states,count) ball() ball_values()""",
    "leastspare.sessions": """play(names,changes,contents,lines,*,torn=True)
        history_of(names,changes,contents,lines,*,torn=True)""",
}
METHODS = {
    ("leastspare.disks", "Disk"): "__init__(self,blocks,contents) __eq__(self,other)",
    ("leastspare.drives", "Drive"): """__init__(self,disk,filling,*,torn=True) write(self,block,content) sync(self)
        pending(self) settled(self) filling(self) left(self) may_leave(self,value) cut(self,filling)""",
    ("leastspare.layouts", "Layout"): "__init__(self,records,changes,contents) __eq__(self,other)",
    ("leastspare.stores", "Store"): """__init__(self,drive,layout) records(self) answered(self) under_way(self)
        begin(self,wish) step(self) change(self,wish) cut(self,filling)""",
    ("leastspare.books", "Book"): "__init__(self,size,changes) __eq__(self,other)",
    ("leastspare.tables", "Table"): "__init__(self,disk,entries) __eq__(self,other)",
    ("leastspare.writers", "Writer"): "__init__(self,disk,size,memories,rules) __eq__(self,other)",
    ("leastspare.webs", "Web"): "__init__(self,states,steps) __eq__(self,other)",
    ("leastspare.sessions", "Session"): "__init__(self,names,changes,contents,*,torn=True) do(self,line)",
    ("leastspare.desk", "Desk"): """__init__(self,layout,*,torn=True) filling(self) told(self) due(self)
        wish(self,wish) cut_in(self,wish,number) by_hand(self,wish,groups,number) is_broken(self) undo(self)
        redo(self) deeds(self) hint(self,wish,groups)""",
}


def told(function):
    return function.__name__ + str(inspect.signature(function)).replace(" ", "")


class Interface(unittest.TestCase):
    def test_functions(self):
        for name, texts in FUNCTIONS.items():
            module = importlib.import_module(name)
            for text in texts.split():
                with self.subTest(text):
                    function = getattr(module, text.partition("(")[0])
                    self.assertTrue(inspect.isfunction(function))
                    self.assertEqual(told(function), text)
                    self.assertEqual(function.__module__, name)

    def test_methods_stand_in_the_class_itself(self):
        for (name, word), texts in METHODS.items():
            kind = getattr(importlib.import_module(name), word)
            self.assertEqual(kind.__module__, name)
            for text in texts.split():
                with self.subTest(text):
                    method = vars(kind)[text.partition("(")[0]]
                    self.assertTrue(inspect.isfunction(method))
                    self.assertEqual(told(method), text)
