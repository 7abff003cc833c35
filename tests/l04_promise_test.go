package tests

import (
	"fmt"
	"slices"
	"strings"
	"testing"

	"loop.example/g01083/impl"
)

func digits(n int64) string { return fmt.Sprint(n) }

// blanked writes values with blanks between them, or a minus sign.
func blanked[T any](values []T) string {
	if len(values) == 0 {
		return "-"
	}
	return strings.Trim(fmt.Sprint(values), "[]")
}

// textByDefinition is the text of what has the shape of a category. Where that is no category, the
// text is that of no category, unless an identity fails.
func textByDefinition(c impl.Category) string {
	var arrows, composites []string
	for f := range c.From {
		arrows = append(arrows, fmt.Sprintf("%d>%d", c.From[f], c.To[f]))
		for g := range c.From {
			if c.To[f] == c.From[g] && !slices.Contains(c.Identity, int64(f)) && !slices.Contains(c.Identity, int64(g)) {
				composites = append(composites, fmt.Sprintf("%d.%d=%d", f, g, c.Composites[f][g]))
			}
		}
	}
	return fmt.Sprintf("%d | %s | %s | %s", c.Objects, blanked(arrows), blanked(c.Identity), blanked(composites))
}

func lineByDefinition(c impl.Category, f int) string {
	line := fmt.Sprintf("%d>%d:", c.From[f], c.To[f])
	for g := range c.From {
		if c.To[f] == c.From[g] && !slices.Contains(c.Identity, int64(g)) {
			line += fmt.Sprintf(" %d=%d", g, c.Composites[f][g])
		}
	}
	return line
}

func functorTextByDefinition(f impl.Functor) string {
	return blanked(f.Objects) + " | " + blanked(f.Arrows)
}

// checkParsedBack checks that a category has its text, and that the text is parsed to it.
func checkParsedBack(t *testing.T, label string, c impl.Category) {
	t.Helper()
	text, code := impl.CategoryText(c)
	if code != impl.ErrNone || text != textByDefinition(c) {
		t.Fatalf("%s: CategoryText of %v returns %q with code %d, want %q", label, c, text, code, textByDefinition(c))
	}
	back, code := impl.ParseCategory(text)
	if code != impl.ErrNone || fmt.Sprint(back) != fmt.Sprint(c) {
		t.Fatalf("%s: ParseCategory of %q returns %v with code %d, want %v", label, text, back, code, c)
	}
}

func TestPromise4Categories(t *testing.T) {
	for _, s := range append(samples(), sample{"largest", largest()}, sample{"paths", mixedPaths()}, sample{"three steps", threeSteps()}) {
		checkParsedBack(t, s.label, s.c)
		if opposite, code := impl.OppositeCategory(s.c); code == impl.ErrNone {
			checkParsedBack(t, "the opposite of "+s.label, opposite)
		}
		for _, r := range samples() {
			if built, code := impl.JoinCategory(s.c, r.c); code == impl.ErrNone {
				checkParsedBack(t, "the join of "+s.label+" and "+r.label, built)
			}
			if built, code := impl.ProductCategory(s.c, r.c); code == impl.ErrNone {
				checkParsedBack(t, "the product of "+s.label+" and "+r.label, built)
			}
		}
	}
	for n := range int64(impl.MaxObjects + 1) {
		checkParsedBack(t, "chain", chain(n))
		checkParsedBack(t, "discrete", discrete(n))
	}
	for n := range int64(impl.MaxArrows) {
		checkParsedBack(t, "group", cyclic(n+1))
	}
}

// TestPromise4InAllTables goes through all tables of small shapes: the texts of those that are
// categories are parsed to them, and the other ones are the texts of nothing.
func TestPromise4InAllTables(t *testing.T) {
	for _, c := range []impl.Category{
		{}, discrete(1), discrete(2), cyclic(2), identityLast(), cyclic(3), changed(cyclic(3), func(c *impl.Category) { c.Identity[0] = 1 }),
		longChain(), parallel(), retract(), beforeParallel(), backwards(), indiscrete(2),
	} {
		forAllTables(c, func(c impl.Category) {
			switch faultByDefinition(c)[0] {
			case impl.FaultNone:
				checkParsedBack(t, "table", c)
			case impl.FaultAssociative:
				one(impl.ParseCategory(textByDefinition(c))).fails(t, impl.ErrSyntax)
				one(impl.CategoryText(c)).fails(t, impl.ErrInvalid)
			}
		})
	}
}

// forAllChanges calls visit with all texts that come out of a text by leaving out, replacing or
// inserting a byte, or by exchanging two neighbours.
func forAllChanges(text string, visit func(other string)) {
	const letters = "0123456789 |>.=-+,:x\n\t\x00\xff"
	for i := range len(text) + 1 {
		head, tail := text[:i], text[i:]
		for _, letter := range []byte(letters) {
			visit(head + string([]byte{letter}) + tail)
			if tail != "" {
				visit(head + string([]byte{letter}) + tail[1:])
			}
		}
		if tail != "" {
			visit(head + tail[1:])
		}
		if len(tail) > 1 {
			visit(head + tail[1:2] + tail[:1] + tail[2:])
		}
	}
}

// TestPromise4OnlyTexts checks that only the very text of what is returned is parsed to it.
func TestPromise4OnlyTexts(t *testing.T) {
	parsed := 0
	for _, s := range samples() {
		forAllChanges(textByDefinition(s.c), func(text string) {
			c, code := impl.ParseCategory(text)
			if code != impl.ErrNone {
				one(c, code).fails(t, impl.ErrSyntax)
				return
			}
			parsed++
			if !impl.IsCategory(c) || textByDefinition(c) != text {
				t.Errorf("ParseCategory of %q returns %v with the text %q", text, c, textByDefinition(c))
			}
		})
	}
	expect(t, "some changes make other categories", parsed > 100, true)
}

// forAllImages calls visit with all ways to give a number of d to each number of c, if they are few.
func forAllImages(c, d impl.Category, visit func(f impl.Functor)) {
	count := 1
	for range c.Objects {
		count *= max(1, int(d.Objects))
	}
	for range c.From {
		count = min(1000, count) * max(1, len(d.From))
	}
	if count > 1000 {
		return
	}
	forAllLists(int(c.Objects), d.Objects, func(objects []int64) {
		forAllLists(len(c.From), int64(len(d.From)), func(arrows []int64) {
			visit(impl.Functor{Source: c, Target: d, Objects: slices.Clone(objects), Arrows: slices.Clone(arrows)})
		})
	})
}

// isFunctorByDefinition is for an image of each object and each arrow.
func isFunctorByDefinition(f impl.Functor) bool {
	c, d := f.Source, f.Target
	for x, e := range c.Identity {
		if f.Arrows[e] != d.Identity[f.Objects[x]] {
			return false
		}
	}
	for a := range c.From {
		if d.From[f.Arrows[a]] != f.Objects[c.From[a]] || d.To[f.Arrows[a]] != f.Objects[c.To[a]] {
			return false
		}
		for b := range c.From {
			if c.To[a] == c.From[b] && f.Arrows[c.Composites[a][b]] != d.Composites[f.Arrows[a]][f.Arrows[b]] {
				return false
			}
		}
	}
	return true
}

func TestPromise4Functors(t *testing.T) {
	functors := 0
	for _, s := range samples() {
		for _, r := range samples() {
			forAllImages(s.c, r.c, func(f impl.Functor) {
				text := functorTextByDefinition(f)
				expect(t, s.label+" to "+r.label+" by "+text, impl.IsFunctor(f), isFunctorByDefinition(f))
				if isFunctorByDefinition(f) {
					functors++
					one(impl.FunctorText(f)).is(t, text)
					one(impl.ParseFunctor(s.c, r.c, text)).is(t, f)
				} else {
					one(impl.FunctorText(f)).fails(t, impl.ErrInvalid)
					one(impl.ParseFunctor(s.c, r.c, text)).fails(t, impl.ErrSyntax)
				}
			})
		}
	}
	expect(t, "functors", functors > 300, true)
}

func TestPromise4LargeFunctors(t *testing.T) {
	for _, s := range append(samples(), sample{"largest", largest()}, sample{"group", cyclic(impl.MaxArrows)}) {
		f := identityByDefinition(s.c)
		one(impl.ParseFunctor(s.c, s.c, functorTextByDefinition(f))).is(t, f)
		// All of it goes to the last object.
		for _, d := range []impl.Category{backwards(), longChain(), largest(), cyclic(impl.MaxArrows)} {
			f := constantByDefinition(s.c, d, d.Objects-1)
			one(impl.FunctorText(f)).is(t, functorTextByDefinition(f))
			one(impl.ParseFunctor(s.c, d, functorTextByDefinition(f))).is(t, f)
		}
	}
}

func TestPromise4OnlyFunctorTexts(t *testing.T) {
	for _, s := range describedFunctors() {
		forAllChanges(s.label, func(text string) {
			f, code := impl.ParseFunctor(s.f.Source, s.f.Target, text)
			if code != impl.ErrNone {
				one(f, code).fails(t, impl.ErrSyntax)
			} else if !isFunctorByDefinition(f) || functorTextByDefinition(f) != text || fmt.Sprint(f.Source, f.Target) != fmt.Sprint(s.f.Source, s.f.Target) {
				t.Errorf("ParseFunctor of %q returns %v", text, f)
			}
		})
	}
}
