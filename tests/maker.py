"""Texts made by chance together with the trees that they stand for, apart from how the program reads.

Each function gives a pair: a list of tokens, and the written tree.
"""

import random

from answers import hexed

NAMES = ("a", "b1", "_c", "key", "day", "index", '"Q u"', '"select"', '"a""b"', "Total", "x", '"\u00e9 (,"', '"."')
VALUES = (
    ("0", "18(0)"), ("12", "18(12)"), ("9223372036854775808", "19(9223372036854775808 0)"), ("1.50", "19(150 2)"),
    ("2.5e1", "20(4627730092099895296)"), ("null", "16()"), ("true", "17(1)"), ("False", "17(0)"),
    ("'it''s'", "21('69742773)"),
    ("''", "21(')"), ("x'0f'", "24('0f)"), ("X''", "24(')"), ("0.05", "19(5 2)"), ("00.0", "19(0 1)"),
    ("'\n(\u20ac,\"--'", "21('0a28e282ac2c222d2d)"), ("0e7", "20(0)"), ("1E+98", "20(6072937571782577189)"),
    ("4.9e-324", "20(1)"), ("0017", "18(17)"),
)
KINDS = (
    (["truth"], "1(1 0 0)"), (["Whole"], "1(2 0 0)"), (["exact", "(", "5", ",", "2", ")"], "1(3 5 2)"),
    (["real"], "1(4 0 0)"), (["text", "(", "9", ")"], "1(5 9 0)"), (["day"], "1(6 0 0)"), (["moment"], "1(7 0 0)"),
    (["bytes", "(", "4096", ")"], "1(8 4096 0)"),
)
CHAINS = {
    0: (("or", 3),), 1: (("and", 2),), 4: (("||", 42),), 5: (("+", 16), ("-", 17)),
    6: (("*", 18), ("/", 19), ("%", 20)),
}
COMPARISONS = (("=", 8), ("<>", 9), ("<", 10), ("<=", 11), (">", 12), (">=", 13), ("like", 49), ("found", 90))


class Maker:
    def __init__(self, seed):
        self.chance = random.Random(seed)

    def one_of(self, choices):
        return self.chance.choice(choices)

    def maybe(self):
        return self.chance.random() < 0.4

    def name(self):
        name = self.one_of(NAMES)
        if name.startswith('"'):
            return [name], hexed(name[1:-1].replace('""', '"'))
        return [name], hexed(name.lower())

    def some(self, member, most=3):
        """Members with commas between, and their trees with blanks between."""
        made = [member() for turn in range(self.chance.randint(1, most))]
        tokens = list(made[0][0])
        for more, tree in made[1:]:
            tokens += [","] + more
        return tokens, " ".join([tree for more, tree in made]), len(made)

    def expression(self, size, level=0):
        """An expression of that level or above; the size bounds how deep it goes."""
        at = self.one_of([0, 1, 2, 3, 3, 4, 5, 6, 7, 8, 8]) if size > 0 else 8
        if at < level:
            tokens, tree = self.expression(size - 1, 0)
            return ["("] + tokens + [")"], tree
        if at in CHAINS:
            return self.chain(size - 1, at)
        if at == 2:
            tokens, tree = self.expression(size - 1, 2)
            return ["not"] + tokens, f"132(1 {tree})"
        if at == 3:
            return self.comparison(size - 1)
        if at == 7:
            tokens, tree = self.expression(size - 1, 7)
            return ["-"] + tokens, f"132(21 {tree})"
        return self.operand(size)

    def chain(self, size, level):
        tokens, tree = self.expression(size, level + 1)
        for turn in range(self.chance.randint(1, 3)):
            sign, number = self.one_of(CHAINS[level])
            right, other = self.expression(size, level + 1)
            tokens, tree = tokens + [sign] + right, f"132({number} {tree} {other})"
        return tokens, tree

    def comparison(self, size):
        tokens, tree = self.expression(size, 4)
        kind = self.one_of(["sign", "sign", "is", "between", "in", "question"])
        if kind == "is":
            word, number = self.one_of([("null", 4), ("true", 5)])
            if self.maybe():
                return tokens + ["is", "not", word], f"132(1 132({number} {tree}))"
            return tokens + ["is", word], f"132({number} {tree})"
        if kind == "sign":
            word, number = self.one_of(COMPARISONS)
            right, other = self.expression(size, 4)
            behind, made = [word] + right, f"132({number} {tree} {other})"
            if word not in ("like", "found"):
                return tokens + behind, made
        elif kind == "between":
            low, one = self.expression(size, 4)
            high, two = self.expression(size, 4)
            behind, made = ["between"] + low + ["and"] + high, f"132(2 132(13 {tree} {one}) 132(11 {tree} {two}))"
        elif kind == "in":
            members, trees, count = self.some(lambda: self.expression(size))
            behind, made = ["in", "("] + members + [")"], f"134({tree} {trees})"
        else:
            inner, asked = self.question(size, True)
            behind, made = ["in", "("] + inner + [")"], f"135({tree} {asked})"
        if self.maybe():
            return tokens + ["not"] + behind, f"132(1 {made})"
        return tokens + behind, made

    def operand(self, size):
        if size <= 0:
            return self.one_of([self.value, self.given, self.column])()
        return self.one_of([self.value, self.column, self.case, self.cast, self.exists, self.call, self.call,
                            self.asked, self.in_brackets])(size)

    def value(self, size=0):
        if self.maybe():
            word, text, tree = self.one_of([("day", "'1970-01-02'", "22(1)"),
                                            ("moment", "'1970-01-01 00:00:01'", "23(1000000)"),
                                            ("Day", "'0001-01-01'", "22(-719162)"),
                                            ("moment", "'1969-12-31 23:59:59.9'", "23(-100000)")])
            return [word, text], f"128({tree})"
        text, tree = self.one_of(VALUES)
        return [text], f"128({tree})"

    def given(self, size=0):
        number = self.chance.randint(1, 64)
        return [f"${number}"], f"130({number - 1})"

    def column(self, size=0):
        name, tree = self.name()
        if self.maybe():
            table, other = self.name()
            return table + ["."] + name, f"129({other} {tree})"
        return name, f"129(' {tree})"

    def in_brackets(self, size):
        tokens, tree = self.expression(size - 1)
        return ["("] + tokens + [")"], tree

    def asked(self, size):
        tokens, tree = self.question(size - 1, True)
        return ["("] + tokens + [")"], f"137({tree})"

    def case(self, size):
        tokens, trees = ["case"], []
        for turn in range(self.chance.randint(1, 2)):
            when, one = self.expression(size - 1)
            then, two = self.expression(size - 1)
            tokens += ["when"] + when + ["then"] + then
            trees += [one, two]
        if self.maybe():
            other, tree = self.expression(size - 1)
            return tokens + ["else"] + other + ["end"], f"138({' '.join(trees + [tree])})"
        return tokens + ["end"], f"138({' '.join(trees)} 128(16()))"

    def cast(self, size):
        kind, written = self.one_of(KINDS)
        tokens, tree = self.expression(size - 1)
        return ["cast", "("] + tokens + ["as"] + kind + [")"], f"139({written} {tree})"

    def exists(self, size):
        tokens, tree = self.question(size - 1)
        return ["exists", "("] + tokens + [")"], f"136({tree})"

    def call(self, size):
        name, written = self.name()
        sort = self.chance.randint(0, 3)
        members, trees, count = self.some(lambda: self.expression(size - 1))
        inner, tree = (
            ([], f"140({written})"), (["*"], f"141({written} 0)"), (members, f"140({written} {trees})"),
            (["distinct"] + members, f"141({written} 1 {trees})"),
        )[sort]
        tokens = name + ["("] + inner + [")"]
        return self.over(tokens, tree, size) if self.maybe() else (tokens, tree)

    def over(self, tokens, tree, size):
        inner, trees, count = [], "", 0
        if self.maybe():
            members, trees, count = self.some(lambda: self.expression(size - 1))
            inner, trees = ["partition", "by"] + members, " " + trees
        if self.maybe():
            keys, more, keyed = self.some(lambda: self.key(size - 1))
            inner, trees = inner + ["order", "by"] + keys, f"{trees} {more}"
        return tokens + ["over", "("] + inner + [")"], f"142({tree} {count}{trees})"

    def key(self, size):
        tokens, tree = self.expression(size)
        way, number = self.one_of([([], 0), (["asc"], 0), (["desc"], 1)])
        return tokens + way, f"155({tree} {number})"

    def question(self, size, begins_with_select=False):
        tokens, tree = self.select(size) if begins_with_select else self.term(size)
        while self.chance.random() < 0.2:
            word, how = self.one_of([("union", 1), ("union all", 0), ("intersect", 2), ("intersect all", 4),
                                     ("except", 3), ("except all", 5)])
            right, other = self.term(size)
            tokens, tree = tokens + word.split() + right, f"153({how} {tree} {other})"
        return self.ordered(tokens, tree, size)

    def ordered(self, tokens, tree, size):
        trees, limit, offset = "", -1, 0
        if self.chance.random() < 0.2:
            keys, trees, count = self.some(lambda: self.key(size))
            tokens, trees = tokens + ["order", "by"] + keys, " " + trees
        if self.chance.random() < 0.2:
            limit = self.chance.randint(0, 3)
            tokens = tokens + ["limit", str(limit)]
        if self.chance.random() < 0.2:
            offset = self.chance.randint(0, 3)
            tokens = tokens + ["offset", str(offset)]
        if trees or limit >= 0 or offset > 0:
            return tokens, f"154({tree} {offset} {limit}{trees})"
        return tokens, tree

    def term(self, size):
        if size > 0 and self.chance.random() < 0.3:
            tokens, tree = self.question(size - 1)
            return ["("] + tokens + [")"], tree
        return self.select(size)

    def select(self, size):
        tokens, distinct = (["select", "distinct"], 1) if self.maybe() else (["select"], 0)
        more, items, count = self.some(lambda: self.item(size - 1))
        tokens, sources, groups = tokens + more, "", ""
        if self.maybe():
            more, sources, count = self.some(lambda: self.source(size - 1), 2)
            tokens = tokens + ["from"] + more
        more, where = self.condition("where", size)
        tokens = tokens + more
        if self.maybe():
            more, groups, count = self.some(lambda: self.expression(size - 1), 2)
            tokens = tokens + ["group", "by"] + more
        more, having = self.condition("having", size)
        return tokens + more, f"144({distinct} 145({items}) 146({sources}) {where} 148({groups}) {having})"

    def condition(self, word, size):
        if self.maybe():
            tokens, tree = self.expression(size - 1)
            return [word] + tokens, tree
        return [], "147()"

    def item(self, size):
        sort = self.chance.randint(0, 5)
        name, written = self.name()
        if sort == 0:
            return ["*"], "131(')"
        if sort == 1:
            return name + [".", "*"], f"131({written})"
        tokens, tree = self.expression(size)
        if sort == 2:
            return tokens + ["as"] + name, f"149({tree} {written})"
        return tokens, f"149({tree} ')"

    def source(self, size):
        tokens, tree = self.single(size)
        while self.chance.random() < 0.3:
            word, how = self.one_of([("join", 0), ("inner join", 0), ("left join", 1), ("full join", 2)])
            right, other = self.single(size)
            on, held = self.expression(size - 1)
            tokens, tree = tokens + word.split() + right + ["on"] + on, f"152({how} {tree} {other} {held})"
        return tokens, tree

    def single(self, size):
        name, written = self.name()
        if size > 0 and self.maybe():
            tokens, tree = self.question(size - 1)
            return ["("] + tokens + [")", "as"] + name, f"151({tree} {written})"
        table, other = self.name()
        if self.maybe():
            return table + ["as"] + name, f"150({other} {written})"
        return table, f"150({other} ')"

    def command(self, size):
        if self.chance.random() < 0.1:
            name, written = self.name()
            tokens, tree = self.plain_command(size)
            return ["prepare"] + name + ["as"] + tokens, f"184({written} {tree})"
        return self.plain_command(size)

    def plain_command(self, size):
        kind = self.one_of(["question", "question", "insert", "update", "delete", "table", "execute", "explain",
                            "view", "short"])
        if kind in ("question", "explain"):
            tokens, tree = self.question(size)
            return (tokens, f"160({tree})") if kind == "question" else (["explain"] + tokens, f"186({tree})")
        if kind == "short":
            return self.one_of([self.begun, self.dropped, self.index, self.right])()
        name, written = self.name()
        if kind == "view":
            tokens, tree = self.question(size)
            return ["create", "view"] + name + ["as"] + tokens, f"176({written} {tree})"
        if kind == "insert":
            return self.insert(size, name, written)
        if kind == "update":
            settings, trees, count = self.some(lambda: self.setting(size))
            more, where = self.condition("where", size)
            return ["update"] + name + ["set"] + settings + more, f"165({written} {where} {trees})"
        if kind == "delete":
            more, where = self.condition("where", size)
            return ["delete", "from"] + name + more, f"167({written} {where})"
        if kind == "execute":
            given, trees, count = self.some(lambda: self.expression(size))
            return ["execute"] + name + ["("] + given + [")"], f"185({written} {trees})"
        parts, trees, count = self.some(lambda: self.part(size))
        return ["create", "table"] + name + ["("] + parts + [")"], f"168({written} {trees})"

    def begun(self):
        name, written = self.name()
        return self.one_of([
            (["begin"], "180(0)"), (["begin", "strict"], "180(1)"), (["Commit"], "181()"), (["rollback"], "182(')"),
            (["rollback", "to"] + name, f"182({written})"), (["savepoint"] + name, f"183({written})"),
            (["execute"] + name, f"185({written})"), (["analyze"], "187(')"),
            (["analyze"] + name, f"187({written})"), (["checkpoint"], "188()"),
            (["create", "user"] + name + ["password", "'a''b'"], f"177({written} '612762)"),
        ])

    def dropped(self):
        name, written = self.name()
        number = self.chance.randint(0, 3)
        return ["drop", ("table", "index", "view", "user")[number]] + name, f"173({number} {written})"

    def index(self):
        name, written = self.name()
        table, other = self.name()
        if self.maybe():
            column, third = self.name()
            tokens = ["create", "text", "index"] + name + ["on"] + table + ["("] + column + [")"]
            return tokens, f"175({written} {other} {third})"
        unique = self.chance.randint(0, 1)
        names, trees, count = self.some(self.name)
        tokens = ["create"] + ["unique"] * unique + ["index"] + name + ["on"] + table + ["("] + names + [")"]
        return tokens, f"174({written} {other} {unique} {trees})"

    def right(self):
        table, written = self.name()
        user, other = self.name()
        tokens, number = ["all"], 15
        if self.maybe():
            picked = [self.chance.randint(0, 3) for turn in range(self.chance.randint(1, 5))]
            words = [("select", "insert", "update", "delete")[right] for right in picked]
            tokens = " , ".join(words).split()
            number = sum({1 << right for right in picked})
        if self.maybe():
            return ["revoke"] + tokens + ["on"] + table + ["from"] + user, f"179({number} {written} {other})"
        passing = self.chance.randint(0, 1)
        tokens = ["grant"] + tokens + ["on"] + table + ["to"] + user + ["with", "grant"] * passing
        return tokens, f"178({number} {written} {other} {passing})"

    def setting(self, size):
        name, written = self.name()
        tokens, tree = self.expression(size)
        return name + ["="] + tokens, f"166({written} {tree})"

    def insert(self, size, name, written):
        tokens, names = ["insert", "into"] + name, ""
        if self.maybe():
            more, names, count = self.some(self.name)
            tokens = tokens + ["("] + more + [")"]
        if self.maybe():
            more, rows = self.question(size)
        else:
            rowed, trees, count = self.some(lambda: self.row(size))
            more, rows = ["values"] + rowed, f"163({trees})"
        return tokens + more, f"161({written} 162({names}) {rows})"

    def row(self, size):
        members, trees, count = self.some(lambda: self.expression(size - 1))
        return ["("] + members + [")"], f"164({trees})"

    def part(self, size):
        sort = self.chance.randint(0, 5)
        names, trees, count = self.some(self.name)
        if sort == 0:
            return ["primary", "key", "("] + names + [")"], f"170(1 {trees})"
        if sort == 1:
            return ["unique", "("] + names + [")"], f"170(0 {trees})"
        if sort == 2:
            tokens, tree = self.expression(size)
            return ["check", "("] + tokens + [")"], f"171({tree})"
        name, written = self.name()
        if sort == 3:
            others, more, many = self.some(self.name)
            tokens = ["foreign", "key", "("] + names + [")", "references"] + name + ["("] + others + [")"]
            cascade = self.chance.randint(0, 1)
            return tokens + ["on", "delete", "cascade"] * cascade, f"172({cascade} {written} {count} {trees} {more})"
        return self.column_part(size, name, written)

    def column_part(self, size, name, written):
        kind, tree = self.one_of(KINDS)
        full = self.chance.randint(0, 1)
        tokens, filling = name + kind + ["not", "null"] * full, "147()"
        if self.maybe():
            more, filling = self.expression(size, 4)
            tokens = tokens + ["default"] + more
        return tokens, f"169({written} {tree} {full} {filling})"

    def spread(self, tokens):
        """The tokens as one text, with what may stand between them, and the place of each."""
        text, places = "", []
        for token in tokens:
            text += self.one_of([" ", " ", "\n", "\t\r", " -- remark '\n", "  "])
            places.append(len(text.encode("utf-8")))
            text += token
        return text, places
