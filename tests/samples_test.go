package tests

import (
	"math"
	"slices"

	"loop.example/g01083/impl"
)

// preorder returns the category of a preorder on n elements, its arrows in ascending order of their
// ends.
func preorder(n int64, isRelated func(i, j int64) bool) impl.Category {
	c := impl.Category{Objects: n}
	numbers := map[[2]int64]int64{}
	for i := range n {
		for j := range n {
			if !isRelated(i, j) {
				continue
			}
			number := int64(len(c.From))
			numbers[[2]int64{i, j}] = number
			c.From, c.To = append(c.From, i), append(c.To, j)
			if i == j {
				c.Identity = append(c.Identity, number)
			}
		}
	}
	for f := range c.From {
		row := repeat(-1, len(c.From))
		for g := range c.From {
			if c.To[f] == c.From[g] {
				row[g] = numbers[[2]int64{c.From[f], c.To[g]}]
			}
		}
		c.Composites = append(c.Composites, row)
	}
	return c
}

func discrete(n int64) impl.Category {
	return preorder(n, func(i, j int64) bool { return i == j })
}

func chain(n int64) impl.Category { return preorder(n, func(i, j int64) bool { return i <= j }) }

// indiscrete has exactly one arrow from each object to each object.
func indiscrete(n int64) impl.Category { return preorder(n, func(i, j int64) bool { return true }) }

func interval() impl.Category { return chain(2) }

func longChain() impl.Category { return chain(3) }

// monoid has one object, the identity 0, and a table of products.
func monoid(table ...[]int64) impl.Category {
	n := len(table)
	return impl.Category{Objects: 1, From: repeat(0, n), To: repeat(0, n), Identity: list(0), Composites: table}
}

// cyclic is the group of the numbers modulo n.
func cyclic(n int64) impl.Category {
	var table [][]int64
	for i := range n {
		row := counting(n)
		for j := range row {
			row[j] = (i + row[j]) % n
		}
		table = append(table, row)
	}
	return monoid(table...)
}

// retract has an object 1 that is a part of the object 0: 2 then 3 is 1, and 3 then 2 is 4.
func retract() impl.Category {
	return impl.Category{
		Objects: 2, From: list(0, 0, 0, 1, 1), To: list(0, 0, 1, 0, 1), Identity: list(0, 4),
		Composites: lists(list(0, 1, 2, -1, -1), list(1, 1, 2, -1, -1), list(-1, -1, -1, 1, 2), list(3, 3, 4, -1, -1), list(-1, -1, -1, 3, 4)),
	}
}

// parallel has two arrows from 0 to 1.
func parallel() impl.Category {
	return impl.Category{
		Objects: 2, From: list(0, 0, 0, 1), To: list(0, 1, 1, 1), Identity: list(0, 3),
		Composites: lists(list(0, 1, 2, -1), list(-1, -1, -1, 1), list(-1, -1, -1, 2), list(-1, -1, -1, 3)),
	}
}

// backwards is the interval with its identities behind the other arrow and in the wrong order.
func backwards() impl.Category {
	return impl.Category{
		Objects: 2, From: list(0, 1, 0), To: list(1, 1, 0), Identity: list(2, 1),
		Composites: lists(list(-1, 0, -1), list(-1, 1, -1), list(0, -1, 2)),
	}
}

// sum is the category of c and, behind it, d.
func sum(c, d impl.Category) impl.Category {
	s := impl.Category{Objects: c.Objects + d.Objects}
	n := int64(len(c.From))
	s.From = slices.Concat(c.From, moved(d.From, c.Objects))
	s.To = slices.Concat(c.To, moved(d.To, c.Objects))
	s.Identity = slices.Concat(c.Identity, moved(d.Identity, n))
	for _, row := range c.Composites {
		s.Composites = append(s.Composites, slices.Concat(row, repeat(-1, len(d.From))))
	}
	for _, row := range d.Composites {
		s.Composites = append(s.Composites, slices.Concat(repeat(-1, len(c.From)), moved(row, n)))
	}
	return s
}

// moved adds a number to all numbers of a list but -1.
func moved(values []int64, by int64) []int64 {
	more := slices.Clone(values)
	for i := range more {
		if more[i] != -1 {
			more[i] += by
		}
	}
	return more
}

// largest has exactly MaxObjects objects and MaxArrows arrows.
func largest() impl.Category {
	return sum(discrete(impl.MaxObjects-1), cyclic(impl.MaxArrows-impl.MaxObjects+1))
}

func cloned(c impl.Category) impl.Category {
	var composites [][]int64
	for _, row := range c.Composites {
		composites = append(composites, slices.Clone(row))
	}
	return impl.Category{Objects: c.Objects, From: slices.Clone(c.From), To: slices.Clone(c.To), Identity: slices.Clone(c.Identity), Composites: composites}
}

// changed returns c with a change that c itself does not see.
func changed(c impl.Category, change func(c *impl.Category)) impl.Category {
	c = cloned(c)
	change(&c)
	return c
}

type sample struct {
	label string
	c     impl.Category
}

// samples are categories of all kinds with at most 9 arrows.
func samples() []sample {
	return []sample{
		{"no objects", impl.Category{}},
		{"no objects, empty lists", impl.Category{From: list(), To: list(), Identity: list(), Composites: lists()}},
		{"one arrow", discrete(1)},
		{"three objects", discrete(3)},
		{"interval", interval()},
		{"interval backwards", backwards()},
		{"long chain", longChain()},
		{"span", preorder(3, func(i, j int64) bool { return i == j || i == 1 })},
		{"cospan", preorder(3, func(i, j int64) bool { return i == j || j == 1 })},
		{"three isomorphic objects", indiscrete(3)},
		{"parallel arrows", parallel()},
		{"retract", retract()},
		{"idempotent", monoid(list(0, 1), list(1, 1))},
		{"group of two", cyclic(2)},
		{"group of three", cyclic(3)},
		{"group of six", cyclic(6)},
		{"maps of two elements", monoid(list(0, 1, 2, 3), list(1, 1, 2, 2), list(2, 1, 2, 1), list(3, 1, 2, 0))},
		{"nilpotent", monoid(list(0, 1, 2), list(1, 2, 2), list(2, 2, 2))},
		{"interval and group", sum(interval(), cyclic(2))},
		{"groups of two and of three", sum(cyclic(2), cyclic(3))},
		{"isomorphic objects and one more", sum(indiscrete(2), discrete(1))},
	}
}

// noNumbers are numbers that none of n things has.
func noNumbers(n int64) []int64 { return list(-1, n, math.MinInt64, math.MaxInt64) }

// wrongSizes lack the shape of a category because of the number of objects or arrows.
func wrongSizes() []sample {
	bad := []sample{
		{"an object too many", discrete(impl.MaxObjects + 1)},
		{"an arrow too many", cyclic(impl.MaxArrows + 1)},
		{"one object too many, beside as many arrows as possible", sum(discrete(impl.MaxObjects), cyclic(impl.MaxArrows-impl.MaxObjects))},
		{"one arrow too many, beside as many objects as possible", sum(discrete(impl.MaxObjects-1), cyclic(impl.MaxArrows-impl.MaxObjects+2))},
		{"an arrow without objects", impl.Category{From: list(0), To: list(0), Composites: lists(list(0))}},
		{"an identity without objects", impl.Category{Identity: list(0)}},
		{"an object without an identity", impl.Category{Objects: 1}},
		{"an object without its arrow", impl.Category{Objects: 1, Identity: list(0)}},
	}
	for _, n := range list(-1, 0, 1, 3, math.MinInt64, math.MaxInt64) {
		bad = append(bad, sample{"wrong number of objects", changed(interval(), func(c *impl.Category) { c.Objects = n })})
	}
	return bad
}

// wrongLists lack the shape of a category because a list is too long or too short.
func wrongLists() []sample {
	var bad []sample
	for label, change := range map[string]func(c *impl.Category, values []int64){
		"From":      func(c *impl.Category, values []int64) { c.From = values },
		"To":        func(c *impl.Category, values []int64) { c.To = values },
		"Identity":  func(c *impl.Category, values []int64) { c.Identity = values },
		"first row": func(c *impl.Category, values []int64) { c.Composites[0] = values },
		"last row":  func(c *impl.Category, values []int64) { c.Composites[2] = values },
	} {
		for _, values := range [][]int64{nil, list(), list(0), list(0, 0, 1, 1), repeat(0, impl.MaxArrows+1)} {
			bad = append(bad, sample{"wrong length of " + label, changed(interval(), func(c *impl.Category) { change(c, values) })})
		}
	}
	// Beginnings of these lists are as they should be.
	for label, change := range map[string]func(c *impl.Category){
		"From":             func(c *impl.Category) { c.From = append(c.From, 1) },
		"To":               func(c *impl.Category) { c.To = append(c.To, 1) },
		"From and To":      func(c *impl.Category) { c.From, c.To = append(c.From, 1), append(c.To, 1) },
		"Identity":         func(c *impl.Category) { c.Identity = append(c.Identity, 2) },
		"the first row":    func(c *impl.Category) { c.Composites[0] = append(c.Composites[0], -1) },
		"the last row":     func(c *impl.Category) { c.Composites[2] = append(c.Composites[2], -1) },
		"the list of rows": func(c *impl.Category) { c.Composites = append(c.Composites, list(-1, -1, -1)) },
	} {
		bad = append(bad, sample{"something behind " + label, changed(interval(), change)})
	}
	for _, rows := range [][][]int64{nil, lists(), interval().Composites[:2], longChain().Composites} {
		bad = append(bad, sample{"wrong number of rows", changed(interval(), func(c *impl.Category) { c.Composites = rows })})
	}
	return bad
}

// wrongEnds lack the shape of a category because an arrow does not lead where it has to.
func wrongEnds() []sample {
	var bad []sample
	add := func(label string, change func(c *impl.Category)) {
		bad = append(bad, sample{label, changed(longChain(), change)})
	}
	for _, x := range noNumbers(3) {
		add("no source", func(c *impl.Category) { c.From[1] = x })
		add("no source, last", func(c *impl.Category) { c.From[5] = x })
		add("no target", func(c *impl.Category) { c.To[0] = x })
		add("no target, last", func(c *impl.Category) { c.To[5] = x })
	}
	// Here the table has no composites with the arrow at the object that does not exist.
	for _, x := range noNumbers(2) {
		bad = append(bad, sample{"no source, and nothing before", changed(interval(), func(c *impl.Category) { c.From[1], c.Composites[0][1] = x, -1 })})
		bad = append(bad, sample{"no target, and nothing behind", changed(interval(), func(c *impl.Category) { c.To[1], c.Composites[1][2] = x, -1 })})
	}
	for _, f := range noNumbers(6) {
		add("no identity", func(c *impl.Category) { c.Identity[1] = f })
		add("no composite", func(c *impl.Category) { c.Composites[1][4] = f })
		add("no composite, last", func(c *impl.Category) { c.Composites[5][5] = f })
	}
	for _, f := range list(0, 1, 4, 5) {
		add("an identity of other objects", func(c *impl.Category) { c.Identity[1] = f })
	}
	for _, f := range list(0, 1, 3, 4, 5, -2) {
		add("a composite with wrong ends", func(c *impl.Category) { c.Composites[1][4] = f })
	}
	for _, f := range list(0, 1, 2, 3, 4, 5, 6, -2, math.MinInt64, math.MaxInt64) {
		add("a composite of arrows that do not follow one another", func(c *impl.Category) { c.Composites[4][1] = f })
	}
	return bad
}

// noShapes are values that lack the shape of a category.
func noShapes() []sample { return slices.Concat(wrongSizes(), wrongLists(), wrongEnds()) }

// lawless have the shape of a category, but a fault.
func lawless() []sample {
	return []sample{
		{"both identity laws fail", monoid(list(0, 0), list(0, 0))},
		{"an identity fails before an arrow", monoid(list(0, 0), list(1, 1))},
		{"an identity fails behind an arrow", monoid(list(0, 1), list(0, 1))},
		{"not associative", monoid(list(0, 1, 2), list(1, 2, 1), list(2, 2, 2))},
		{"not associative over two objects", changed(retract(), func(c *impl.Category) { c.Composites[1][1] = 0 })},
		{"not associative at the end", changed(cyclic(impl.MaxArrows), func(c *impl.Category) { c.Composites[39][39] = 0 })},
	}
}
