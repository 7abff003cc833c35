package tests

import (
	"slices"
	"testing"

	"loop.example/g01083/impl"
)

// named is a category whose arrows have lists of numbers as names, the first two of which are their
// ends. It is slow, but it follows the words of the document.
type named struct {
	objects int64
	arrows  [][]int64
	unit    func(x int64) []int64
	then    func(f, g []int64) []int64
}

func (n named) category() impl.Category {
	number := func(name []int64) int64 {
		return int64(slices.IndexFunc(n.arrows, func(other []int64) bool { return slices.Equal(name, other) }))
	}
	c := impl.Category{Objects: n.objects}
	for x := range n.objects {
		c.Identity = append(c.Identity, number(n.unit(x)))
	}
	for _, f := range n.arrows {
		c.From, c.To = append(c.From, f[0]), append(c.To, f[1])
		row := repeat(-1, len(n.arrows))
		for i, g := range n.arrows {
			if f[1] == g[0] {
				row[i] = number(n.then(f, g))
			}
		}
		c.Composites = append(c.Composites, row)
	}
	return c
}

// isTooLarge reports whether a category that is built has to be refused with ErrLimit.
func (n named) isTooLarge() bool {
	return n.objects > impl.MaxObjects || len(n.arrows) > impl.MaxArrows
}

// checkBuilt checks that what was built is a category, and the right one, or refused if it is too
// large.
func checkBuilt(t *testing.T, label string, built impl.Category, code int64, want named) {
	t.Helper()
	if want.isTooLarge() {
		one(built, code).fails(t, impl.ErrLimit)
		return
	}
	if code != impl.ErrNone || !impl.IsCategory(built) {
		t.Fatalf("%s: got %v with code %d, want a category", label, built, code)
	}
	one(built, code).is(t, want.category())
}

// walks lists all sequences of the numbers of at most steps edges, each of which begins where the
// one before it ends, behind the nodes where they begin and end, in ascending order.
func walks(n int64, from, to []int64, steps int) [][]int64 {
	var found [][]int64
	for x := range n {
		found = append(found, list(x, x))
	}
	for i := 0; i < len(found); i++ {
		walk := found[i]
		for e := range from {
			if from[e] == walk[1] && len(walk)-2 < steps {
				found = append(found, append(list(walk[0], to[e]), append(slices.Clone(walk[2:]), int64(e))...))
			}
		}
	}
	slices.SortFunc(found, slices.Compare)
	return found
}

func namedPaths(n int64, from, to []int64) named {
	return named{
		objects: n, arrows: walks(n, from, to, int(n)),
		unit: func(x int64) []int64 { return list(x, x) },
		then: func(f, g []int64) []int64 { return slices.Concat(list(f[0], g[1]), f[2:], g[2:]) },
	}
}

// pathsByDefinition is for graphs without cycles.
func pathsByDefinition(n int64, from, to []int64) impl.Category {
	return namedPaths(n, from, to).category()
}

func namedOpposite(c impl.Category) named {
	n := named{
		objects: c.Objects,
		unit:    func(x int64) []int64 { return list(x, x, c.Identity[x]) },
		then:    func(f, g []int64) []int64 { return list(f[0], g[1], c.Composites[g[2]][f[2]]) },
	}
	for f := range c.From {
		n.arrows = append(n.arrows, list(c.To[f], c.From[f], int64(f)))
	}
	return n
}

func namedProduct(c, d impl.Category) named {
	number := func(x, y int64) int64 { return x*d.Objects + y }
	n := named{objects: c.Objects * d.Objects}
	for f := range c.From {
		for g := range d.From {
			n.arrows = append(n.arrows, list(number(c.From[f], d.From[g]), number(c.To[f], d.To[g]), int64(f), int64(g)))
		}
	}
	n.unit = func(p int64) []int64 {
		for x := range c.Objects {
			for y := range d.Objects {
				if number(x, y) == p {
					return list(p, p, c.Identity[x], d.Identity[y])
				}
			}
		}
		return nil
	}
	n.then = func(f, g []int64) []int64 {
		return list(f[0], g[1], c.Composites[f[2]][g[2]], d.Composites[f[3]][g[3]])
	}
	return n
}

// namedJoin gives the arrow f of c the name 0 f, g of d the name 1 g, and the arrow from x to y the
// name 2 0, each behind its ends.
func namedJoin(c, d impl.Category) named {
	n := named{objects: c.Objects + d.Objects}
	for f := range c.From {
		n.arrows = append(n.arrows, list(c.From[f], c.To[f], 0, int64(f)))
	}
	for g := range d.From {
		n.arrows = append(n.arrows, list(c.Objects+d.From[g], c.Objects+d.To[g], 1, int64(g)))
	}
	for x := range c.Objects {
		for y := range d.Objects {
			n.arrows = append(n.arrows, list(x, c.Objects+y, 2, 0))
		}
	}
	n.unit = func(x int64) []int64 {
		if x < c.Objects {
			return list(x, x, 0, c.Identity[x])
		}
		return list(x, x, 1, d.Identity[x-c.Objects])
	}
	n.then = func(f, g []int64) []int64 {
		switch {
		case f[2] == 0 && g[2] == 0:
			return list(f[0], g[1], 0, c.Composites[f[3]][g[3]])
		case f[2] == 1 && g[2] == 1:
			return list(f[0], g[1], 1, d.Composites[f[3]][g[3]])
		}
		return list(f[0], g[1], 2, 0)
	}
	return n
}

func joinByDefinition(c, d impl.Category) impl.Category { return namedJoin(c, d).category() }

func namedTwisted(c impl.Category) named {
	arrows := int64(len(c.From))
	n := named{
		objects: arrows,
		unit:    func(f int64) []int64 { return list(f, f, c.Identity[c.From[f]], c.Identity[c.To[f]]) },
		then: func(f, g []int64) []int64 {
			return list(f[0], g[1], c.Composites[g[2]][f[2]], c.Composites[f[3]][g[3]])
		},
	}
	for f := range arrows {
		for u := range arrows {
			for v := range arrows {
				if c.To[u] == c.From[f] && c.To[f] == c.From[v] {
					n.arrows = append(n.arrows, list(f, c.Composites[c.Composites[u][f]][v], u, v))
				}
			}
		}
	}
	slices.SortFunc(n.arrows, slices.Compare)
	return n
}

func twistedByDefinition(c impl.Category) impl.Category { return namedTwisted(c).category() }

// forAllLists calls visit with all lists of a length of numbers in 0..n-1.
func forAllLists(length int, n int64, visit func(values []int64)) {
	values := make([]int64, length)
	var fill func(place int)
	fill = func(place int) {
		if place == length {
			visit(values)
			return
		}
		for values[place] = range n {
			fill(place + 1)
		}
	}
	fill(0)
}

// cut makes a square table of a list.
func cut(values []int64, n int) [][]int64 {
	var rows [][]int64
	for i := range n {
		rows = append(rows, values[i*n:(i+1)*n])
	}
	return rows
}

func isPreorderByDefinition(rows [][]int64) bool {
	for i := range rows {
		if rows[i][i] != 1 {
			return false
		}
		for j := range rows {
			for k := range rows {
				if rows[i][j] == 1 && rows[j][k] == 1 && rows[i][k] != 1 {
					return false
				}
			}
		}
	}
	return true
}

func TestPromise3InAllRelations(t *testing.T) {
	for n := range int64(5) {
		count := 0
		forAllLists(int(n*n), 2, func(values []int64) {
			rows := cut(values, int(n))
			if !isPreorderByDefinition(rows) {
				one(impl.PreorderCategory(rows)).fails(t, impl.ErrInvalid)
				return
			}
			count++
			want := preorder(n, func(i, j int64) bool { return rows[i][j] == 1 })
			expect(t, "a preorder makes a category", impl.IsCategory(want), true)
			one(impl.PreorderCategory(rows)).is(t, want)
		})
		// There are so many preorders on n elements.
		one(int64(count), impl.ErrNone).is(t, list(1, 1, 4, 29, 355)[n])
	}
}

func TestPromise3InAllTables(t *testing.T) {
	for n := range int64(4) {
		count := 0
		forAllLists(int(n*n), n, func(values []int64) {
			rows := cut(values, int(n))
			if n == 0 || !impl.IsCategory(monoid(rows...)) {
				one(impl.MonoidCategory(rows)).fails(t, impl.ErrInvalid)
				return
			}
			count++
			one(impl.MonoidCategory(rows)).is(t, monoid(rows...))
		})
		// There are so many monoids on n elements in which 0 is the unit.
		one(int64(count), impl.ErrNone).is(t, list(0, 1, 2, 11)[n])
	}
}

func TestPromise3InAllGraphs(t *testing.T) {
	for n := int64(1); n <= 3; n++ {
		for edges := range 5 {
			forAllLists(2*edges, n, func(ends []int64) { checkGraph(t, n, ends[:edges], ends[edges:]) })
		}
	}
	for edges := range 4 {
		forAllLists(2*edges, 4, func(ends []int64) { checkGraph(t, 4, ends[:edges], ends[edges:]) })
	}
}

func checkGraph(t *testing.T, n int64, from, to []int64) {
	t.Helper()
	want := namedPaths(n, from, to)
	built, code := impl.PathCategory(n, from, to)
	if slices.ContainsFunc(want.arrows, func(path []int64) bool { return len(path) > 2 && path[0] == path[1] }) {
		one(built, code).fails(t, impl.ErrState)
		return
	}
	checkBuilt(t, "paths", built, code, want)
}

func TestPromise3InGraphsWithManyPaths(t *testing.T) {
	for n := int64(2); n <= impl.MaxObjects; n++ {
		for times := 1; times <= 3; times++ {
			from := slices.Repeat(counting(n-1), times)
			to := moved(from, 1)
			slices.Reverse(from)
			slices.Reverse(to)
			built, code := impl.PathCategory(n, from, to)
			checkBuilt(t, "paths", built, code, namedPaths(n, from, to))
		}
	}
}

func TestPromise3OppositeOfOpposite(t *testing.T) {
	for _, s := range append(samples(), sample{"paths", mixedPaths()}, sample{"largest", largest()}) {
		opposite, code := impl.OppositeCategory(s.c)
		checkBuilt(t, s.label, opposite, code, namedOpposite(s.c))
		one(impl.OppositeCategory(opposite)).is(t, s.c)
	}
}

func TestPromise3InPairsOfCategories(t *testing.T) {
	for _, s := range samples() {
		for _, r := range samples() {
			label := s.label + " and " + r.label
			built, code := impl.ProductCategory(s.c, r.c)
			checkBuilt(t, label, built, code, namedProduct(s.c, r.c))
			expect(t, label, impl.IsCategory(sum(s.c, r.c)), true)
			one(impl.SumCategory(s.c, r.c)).is(t, sum(s.c, r.c))
			built, code = impl.JoinCategory(s.c, r.c)
			checkBuilt(t, label, built, code, namedJoin(s.c, r.c))
		}
	}
}

func TestPromise3TwistedArrows(t *testing.T) {
	for _, s := range append(samples(), sample{"paths", mixedPaths()}, sample{"discrete", discrete(impl.MaxObjects)}) {
		built, code := impl.TwistedCategory(s.c)
		checkBuilt(t, s.label, built, code, namedTwisted(s.c))
	}
}

// isCongruenceByDefinition is for partitions.
func isCongruenceByDefinition(c impl.Category, p []int64) bool {
	for f, class := range p {
		for g, other := range p {
			if class == other && (c.From[f] != c.From[g] || c.To[f] != c.To[g]) {
				return false
			}
		}
	}
	for f := range p {
		for g := range p {
			if c.To[f] == c.From[g] && !areAlike(c, p, f, g) {
				return false
			}
		}
	}
	return true
}

// areAlike reports whether all composites of arrows of the classes of f and of g are in one class.
func areAlike(c impl.Category, p []int64, f, g int) bool {
	for i := range p {
		for j := range p {
			if p[i] == p[f] && p[j] == p[g] && p[c.Composites[i][j]] != p[c.Composites[f][g]] {
				return false
			}
		}
	}
	return true
}

// congruences lists all congruences of c.
func congruences(c impl.Category) [][]int64 {
	var found [][]int64
	for _, p := range allPartitions(int64(len(c.From))) {
		if isCongruenceByDefinition(c, p) {
			found = append(found, p)
		}
	}
	return found
}

func TestPromise3AllCongruences(t *testing.T) {
	for _, s := range samples() {
		for _, p := range allPartitions(int64(len(s.c.From))) {
			want := isCongruenceByDefinition(s.c, p)
			got, code := impl.IsCongruence(s.c, p)
			if code != impl.ErrNone || got != want {
				t.Fatalf("%s: IsCongruence of %v returns %v with code %d, want %v", s.label, p, got, code, want)
			}
			if want {
				checkQuotient(t, s, p)
			} else {
				one(impl.QuotientCategory(s.c, p)).fails(t, impl.ErrInvalid)
			}
		}
	}
}

// checkQuotient checks that the arrows of the quotient are the classes, and that going to the class
// keeps ends, identities and composites.
func checkQuotient(t *testing.T, s sample, p []int64) {
	t.Helper()
	quotient, code := impl.QuotientCategory(s.c, p)
	if code != impl.ErrNone || !impl.IsCategory(quotient) {
		t.Fatalf("%s: QuotientCategory of %v returns %v with code %d", s.label, p, quotient, code)
	}
	classes := 0
	for _, class := range p {
		classes = max(classes, int(class)+1)
	}
	one(list(quotient.Objects, int64(len(quotient.From))), code).is(t, list(s.c.Objects, int64(classes)))
	for x, e := range s.c.Identity {
		one(quotient.Identity[x], code).is(t, p[e])
	}
	for f := range s.c.From {
		one(list(quotient.From[p[f]], quotient.To[p[f]]), code).is(t, list(s.c.From[f], s.c.To[f]))
		for g := range s.c.From {
			if s.c.To[f] == s.c.From[g] {
				one(quotient.Composites[p[f]][p[g]], code).is(t, p[s.c.Composites[f][g]])
			}
		}
	}
}

// leastCongruence returns the meet of all congruences that have each pair in one class.
func leastCongruence(all [][]int64, n int64, pairs [][]int64) []int64 {
	least := repeat(0, int(n))
	for _, p := range all {
		if !slices.ContainsFunc(pairs, func(pair []int64) bool { return p[pair[0]] != p[pair[1]] }) {
			least, _ = impl.MeetPartitions(least, p)
		}
	}
	return least
}

func TestPromise3CongruencesHaveWhatFollows(t *testing.T) {
	for _, s := range append(samples(), sample{"paths", mixedPaths()}) {
		n := int64(len(s.c.From))
		all := congruences(s.c)
		one(impl.CongruenceOf(s.c, nil)).is(t, counting(n))
		var fitting [][]int64
		for number := range n * n {
			pair := list(number/n, number%n)
			if s.c.From[pair[0]] == s.c.From[pair[1]] && s.c.To[pair[0]] == s.c.To[pair[1]] {
				fitting = append(fitting, pair)
				one(impl.CongruenceOf(s.c, lists(pair))).is(t, leastCongruence(all, n, lists(pair)))
			} else {
				one(impl.CongruenceOf(s.c, lists(pair))).fails(t, impl.ErrState)
			}
		}
		for _, first := range fitting {
			for _, second := range fitting {
				pairs := lists(first, second)
				one(impl.CongruenceOf(s.c, pairs)).is(t, leastCongruence(all, n, pairs))
			}
		}
	}
}
