package tests

import (
	"math"
	"slices"
	"strings"
	"testing"

	"loop.example/g01083/impl"
)

// groupText is the text of the group of n elements, written with as little help as possible.
func groupText(n int64) string {
	var b strings.Builder
	b.WriteString("1 |" + strings.Repeat(" 0>0", int(n)) + " | 0 |")
	for f := int64(1); f < n; f++ {
		for g := int64(1); g < n; g++ {
			b.WriteString(" " + digits(f) + "." + digits(g) + "=" + digits((f+g)%n))
		}
	}
	return b.String()
}

// describedCategories are texts with the categories that they describe.
func describedCategories() map[string]impl.Category {
	return map[string]impl.Category{
		"0 | - | - | -":                                                 {},
		"1 | 0>0 | 0 | -":                                               discrete(1),
		"3 | 0>0 1>1 2>2 | 0 1 2 | -":                                   discrete(3),
		"2 | 0>0 0>1 1>1 | 0 2 | -":                                     interval(),
		"2 | 0>1 1>1 0>0 | 2 1 | -":                                     backwards(),
		"3 | 0>0 0>1 0>2 1>1 1>2 2>2 | 0 3 5 | 1.4=2":                   longChain(),
		"2 | 0>0 0>1 0>1 1>1 | 0 3 | -":                                 parallel(),
		"2 | 0>0 0>1 1>0 1>1 | 0 3 | 1.2=0 2.1=3":                       indiscrete(2),
		"1 | 0>0 0>0 | 0 | 1.1=1":                                       monoid(list(0, 1), list(1, 1)),
		"1 | 0>0 0>0 | 0 | 1.1=0":                                       cyclic(2),
		"1 | 0>0 0>0 | 1 | 0.0=1":                                       identityLast(),
		"1 | 0>0 0>0 0>0 | 0 | 1.1=2 1.2=0 2.1=0 2.2=1":                 cyclic(3),
		"2 | 0>0 0>0 0>1 1>0 1>1 | 0 4 | 1.1=1 1.2=2 2.3=1 3.1=3 3.2=4": retract(),
		"3 | 0>0 0>1 0>1 0>2 0>2 0>2 1>1 1>2 2>2 | 0 6 8 | 1.7=3 2.7=5": mixedPaths(),
		"8 | 0>0 1>1 2>2 3>3 4>4 5>5 6>6 7>7 | 0 1 2 3 4 5 6 7 | -":     discrete(impl.MaxObjects),
		"1 | 0>0 0>0 0>0 0>0 | 0 | 1.1=1 1.2=2 1.3=2 2.1=1 2.2=2 2.3=1 3.1=1 3.2=2 3.3=0": monoid(list(0, 1, 2, 3), list(1, 1, 2, 2), list(2, 1, 2, 1), list(3, 1, 2, 0)),
		"4 | 0>0 0>1 0>2 0>3 1>1 1>2 1>3 2>2 2>3 3>3 | 0 4 7 9 | 1.5=2 1.6=3 2.8=3 5.8=6": chain(4),
		"4 | 0>0 1>1 0>1 2>2 3>3 2>3 | 0 1 3 4 | -":                                       sum(identitiesFirst(), identitiesFirst()),
		"3 | 0>0 0>0 1>1 1>2 2>2 | 0 2 4 | 1.1=0":                                         sum(cyclic(2), interval()),
		groupText(12):             cyclic(12),
		groupText(impl.MaxArrows): cyclic(impl.MaxArrows),
	}
}

// identityLast is the group of two elements with the identity 1.
func identityLast() impl.Category {
	return impl.Category{Objects: 1, From: list(0, 0), To: list(0, 0), Identity: list(1), Composites: lists(list(1, 0), list(0, 1))}
}

// identitiesFirst is the interval with the other arrow behind its identities.
func identitiesFirst() impl.Category {
	return impl.Category{
		Objects: 2, From: list(0, 1, 0), To: list(0, 1, 1), Identity: list(0, 1),
		Composites: lists(list(0, -1, 2), list(-1, 1, -1), list(-1, 2, -1)),
	}
}

func TestCategoryText(t *testing.T) {
	for text, c := range describedCategories() {
		one(impl.CategoryText(c)).is(t, text)
	}
	one(impl.CategoryText(impl.Category{From: list(), To: list(), Identity: list(), Composites: lists()})).is(t, "0 | - | - | -")
	for _, s := range append(samples(), sample{"largest", largest()}) {
		one(impl.CategoryText(s.c)).is(t, textByDefinition(s.c))
	}
	checkCategoryErrors(t, func(c impl.Category) result { return one(impl.CategoryText(c)) })
}

func TestParseCategory(t *testing.T) {
	for text, c := range describedCategories() {
		one(impl.ParseCategory(text)).is(t, c)
	}
	for _, s := range append(samples(), sample{"largest", largest()}) {
		one(impl.ParseCategory(textByDefinition(s.c))).is(t, s.c)
	}
}

// misspelt are texts of no category that differ from a text in how something is written.
func misspelt() []string {
	return []string{
		"", " ", "-", "|", " | ", " |  |  | ", "| | |", "0", "0|-|-|-", "0 | - | -", "0 | - | - | - | -", "0 | - | - | - |", "| 0 | - | - | -",
		"0 | - | - | ", "0 |  | - | -", "0 | | | ", "- | - | - | -", " | - | - | -", "0 | 0 | - | -", "0 | -- | - | -", "0 | - - | - | -",
		"0 | - | - | -\n", "\n0 | - | - | -", "0 | - | - | - ", " 0 | - | - | -", "0  | - | - | -", "0 |  - | - | -", "0\t| - | - | -",
		"0 | − | - | -", "0 | - | - | -\x00", "\ufeff0 | - | - | -", "0 ¦ - ¦ - ¦ -", "0 | - | - | -0", "0 | - | - | 0", "00 | - | - | -", "+0 | - | - | -", "-0 | - | - | -",
		"1 |0>0 | 0 | -", "1| 0>0 | 0 | -", "1 | 0>0 | 0 |", "1 | 0>0 | 0 |-", "1 | 0>0 | 0 | - ", "1 | 0 > 0 | 0 | -", "1 | 0> 0 | 0 | -", "1 | 0 0 | 0 | -", "1 | 0-0 | 0 | -",
		"1 | 0>0, | 0 | -", "1 | 0>>0 | 0 | -", "1 | >0>0 | 0 | -", "1 | 0>0> | 0 | -", "1 | 0<0 | 0 | -", "1 | 0>0 | 0 | x", "a | 0>0 | 0 | -", "1 | 0>0 | a | -",
		"01 | 0>0 | 0 | -", "1 | 00>0 | 0 | -", "1 | 0>00 | 0 | -", "1 | 0>0 | 00 | -", "1 | 0>0 | -0 | -", "1 | 0>0 | +0 | -", "1 | 0>0 | 0x0 | -", "1.0 | 0>0 | 0 | -", "1 | 0>0 | 0.0 | -",
		"１ | ０>０ | ０ | -", "1 | 0>0 | ٠ | -", "1 | 0>0 | 0 | \xff", "1 | 0>0 | \xff0 | -", "1 | 0>0 | 0 | -\xc3",
		"1 | 0>0 0>0 | 0 | 1.1 = 1", "1 | 0>0 0>0 | 0 | 1,1=1", "1 | 0>0 0>0 | 0 | 1;1=1", "1 | 0>0 0>0 | 0 | 1 1 1", "1 | 0>0 0>0 | 0 | 1.1=01", "1 | 0>0 0>0 | 0 | 1.01=1", "1 | 0>0 0>0 | 0 | 1.1==1",
		"1 | 0>0 0>0 | 0 | 1.1=1 -", "1 | 0>0 0>0 | 0 | - 1.1=1", "1 | 0>0  0>0 | 0 | 1.1=1", "1 | 0>0 0>0 | 0 |  1.1=1", "1 | 0>0\n0>0 | 0 | 1.1=1", "1 | 0>00>0 | 0 | 1.1=1", "1 | 0>0 0>0 | 0 | 1.1=1.",
		"2 | 0>0 0>1 1>1 | 02 | -", "2 | 0>0 0>1 1>1 | 0,2 | -", "2 | 0>0 0>1 1>1 | 0  2 | -", "0 2 | - | 0>0 0>1 1>1 | 2", "2 | 0 2 | 0>0 0>1 1>1 | -", "2 | 0>0 0>1 1>1 | 0 2 | - | -",
	}
}

// misdescribed are texts of no category that are written as they should be.
func misdescribed() []string {
	return []string{
		// The numbers of objects, of arrows or of identities are wrong.
		"1 | - | - | -", "0 | 0>0 | - | -", "0 | - | 0 | -", "0 | 0>0 | 0 | -", "1 | 0>0 | - | -", "1 | - | 0 | -", "2 | 0>0 | 0 | -", "2 | 0>0 1>1 | 0 | -", "1 | 0>0 | 0 0 | -", "1 | 0>0 1>1 | 0 1 | -",
		"9 | 0>0 1>1 2>2 3>3 4>4 5>5 6>6 7>7 8>8 | 0 1 2 3 4 5 6 7 8 | -", groupText(impl.MaxArrows + 1), groupText(100),
		"0 1 | 0>0 | 0 | -", "1 1 | 0>0 | 0 | -",
		// Something does not exist.
		"1 | 0>1 | 0 | -", "1 | 1>0 | 0 | -", "1 | 1>1 | 0 | -", "1 | 0>0 | 1 | -", "1 | 0>0 | 9 | -", "2 | 0>0 0>2 1>1 | 0 2 | -", "2 | 0>0 2>1 1>1 | 0 2 | -", "1 | 0>0 0>0 | 0 | 1.1=2", "1 | 0>0 0>0 | 0 | 1.2=1", "1 | 0>0 0>0 | 0 | 2.1=1", "1 | 0>0 0>0 | 0 | 1.1=1 1.2=1",
		"2 | 0>0 0>1 1>1 | 0 3 | -", "1 | 0>0 0>0 | 0 | 1.1=40", "1 | 0>0 0>0 | 0 | 40.1=1", "1 | 0>0 0>0 | 0 | 1.40=1", "1 | 0>0 | 40 | -", "1 | 0>0 | 41 | -", "40 | 0>0 | 0 | -", "1 | 40>0 | 0 | -",
		// Identities belong to other objects.
		"2 | 0>0 0>1 1>1 | 2 0 | -", "2 | 0>0 0>1 1>1 | 0 1 | -", "2 | 0>0 0>1 1>1 | 0 0 | -", "2 | 0>0 0>1 1>0 1>1 | 0 2 | -",
		// Composites are missing, or there twice, or in another order, or too many.
		"1 | 0>0 0>0 | 0 | -", "1 | 0>0 0>0 | 0 | 1.1=1 1.1=1", "1 | 0>0 0>0 | 0 | 1.1=0 1.1=1", "1 | 0>0 0>0 | 0 | 0.0=0 1.1=1", "1 | 0>0 0>0 | 0 | 0.1=1 1.1=1", "1 | 0>0 0>0 | 0 | 1.0=1 1.1=1", "1 | 0>0 | 0 | 0.0=0",
		"1 | 0>0 0>0 | 0 | 1.0=0 1.1=1", "1 | 0>0 0>0 | 0 | 0.1=0 1.1=1", "2 | 0>0 0>1 1>1 | 0 2 | 1.1=1", "2 | 0>0 0>1 1>1 | 0 2 | 0.1=1", "2 | 0>0 0>1 1>1 | 0 2 | 1.2=1", "2 | 0>0 0>1 1>1 | 0 2 | 2.0=1",
		"1 | 0>0 0>0 0>0 | 0 | 1.2=0 1.1=2 2.1=0 2.2=1", "1 | 0>0 0>0 0>0 | 0 | 1.1=2 2.1=0 1.2=0 2.2=1", "1 | 0>0 0>0 0>0 | 0 | 2.2=1 1.1=2 1.2=0 2.1=0", "1 | 0>0 0>0 0>0 | 0 | 1.1=2 1.2=0 2.1=0", "1 | 0>0 0>0 0>0 | 0 | 1.1=2 1.2=0 2.1=0 2.2=1 2.2=1",
		"3 | 0>0 0>1 0>2 1>1 1>2 2>2 | 0 3 5 | -", "3 | 0>0 0>1 0>2 1>1 1>2 2>2 | 0 3 5 | 1.4=2 4.1=2", "1 | 0>0 0>0 | 0 | 1.1", "1 | 0>0 0>0 | 0 | 1", "1 | 0>0 0>0 | 0 | 1.1=1 1", "1 | 0>0 0>0 | 0 | 1.1=1=1",
		// A composite leads elsewhere, or composites are not associative.
		"3 | 0>0 0>1 0>2 1>1 1>2 2>2 | 0 3 5 | 1.4=1", "3 | 0>0 0>1 0>2 1>1 1>2 2>2 | 0 3 5 | 1.4=5", "2 | 0>0 0>1 1>0 1>1 | 0 3 | 1.2=3 2.1=3", "1 | 0>0 0>0 0>0 | 0 | 1.1=2 1.2=1 2.1=2 2.2=2", "2 | 0>0 0>0 0>1 1>0 1>1 | 0 4 | 1.1=0 1.2=2 2.3=1 3.1=3 3.2=4",
		// Half an arrow is there.
		"1 | 0>0 0 | 0 | -", "1 | 0 | 0 | -", "1 | 0>0>0 | 0 | -", "0 | 0 | - | -", "1 | 0>0 0>0 0 | 0 | 1.1=1",
		// The text is one of a functor.
		"- | -", "0 1 | 0 1 2", "0 | 0",
	}
}

// longTexts have long numbers, some of which are a right one modulo 2 to the 64 or the 32, or a great
// many of something.
func longTexts() []string {
	many := 100000
	texts := []string{
		strings.Repeat("0", many) + "1 | 0>0 | 0 | -", strings.Repeat("9", many) + " | 0>0 | 0 | -",
		"1 | 0>0 | " + strings.Repeat("0", many) + " | -", "1 |" + strings.Repeat(" 0>0", many) + " | 0 | -", "1 | 0>0 |" + strings.Repeat(" 0", many) + " | -",
		"1 | 0>0 0>0 | 0 |" + strings.Repeat(" 1.1=1", many), strings.Repeat(" | ", many), strings.Repeat("|", many), strings.Repeat(" ", many), strings.Repeat("0 | - | - | -\n", many),
	}
	for _, one := range []string{"4294967297", "18446744073709551617", "9223372036854775808", "9223372036854775809", "36893488147419103233", "340282366920938463463374607431768211457"} {
		texts = append(texts, one+" | 0>0 | 0 | -", "1 | 0>0 0>0 | 0 | "+one+".1=1", "1 | 0>0 0>0 | 0 | 1."+one+"=1", "1 | 0>0 0>0 | 0 | 1.1="+one, "1 | 0>0 0>0 | "+one+" | 0.0=0", "2 | 0>0 0>"+one+" 1>1 | 0 2 | -")
	}
	return texts
}

func TestParseCategoryErrors(t *testing.T) {
	for _, text := range slices.Concat(misspelt(), misdescribed(), longTexts()) {
		if c, code := impl.ParseCategory(text); code != impl.ErrSyntax {
			t.Errorf("%.80q: got %v with code %d, want ErrSyntax", text, c, code)
		} else {
			one(c, code).fails(t, impl.ErrSyntax)
		}
	}
	for _, s := range slices.Concat(samples(), []sample{{"largest", largest()}}) {
		text := textByDefinition(s.c)
		for _, bad := range []string{text + " ", " " + text, text + "\n", text + text, text + " " + text, text + " | " + text, text[1:], text[:len(text)-1], strings.ReplaceAll(text, " ", ""), strings.ReplaceAll(text, " ", "  ")} {
			one(impl.ParseCategory(bad)).fails(t, impl.ErrSyntax)
		}
	}
}

func TestFunctorText(t *testing.T) {
	for _, s := range describedFunctors() {
		one(impl.FunctorText(s.f)).is(t, s.label)
	}
	for _, s := range noFunctors() {
		one(impl.FunctorText(s.f)).fails(t, impl.ErrInvalid)
	}
	for _, s := range samples() {
		f, code := impl.IdentityFunctor(s.c)
		one(impl.FunctorText(f)).is(t, functorTextByDefinition(f))
		one(f, code).is(t, identityByDefinition(s.c))
	}
	checkCategoryErrors(t, func(c impl.Category) result { return one(impl.FunctorText(identityByDefinition(c))) })
	checkCategoryErrors(t, func(c impl.Category) result { return one(impl.FunctorText(impl.Functor{Target: c})) })
}

func TestParseFunctor(t *testing.T) {
	for _, s := range describedFunctors() {
		one(impl.ParseFunctor(s.f.Source, s.f.Target, s.label)).is(t, s.f)
	}
	one(impl.ParseFunctor(interval(), interval(), "1 1 | 2 2 2")).is(t, impl.Functor{Source: interval(), Target: interval(), Objects: list(1, 1), Arrows: list(2, 2, 2)})
}

func TestParseFunctorErrors(t *testing.T) {
	c, d := interval(), longChain()
	for _, text := range []string{
		"", " ", "|", " | ", "-", "- | -", "- | 0 1 2", "0 1 | -", "0 1", "0 1 |", "0 1 | ", "| 0 1 3", "0 1| 0 1 3", "0 1 |0 1 3", "0 1  | 0 1 3", "0 1 |  0 1 3", " 0 1 | 0 1 3", "0 1 | 0 1 3 ", "0 1 | 0 1 3\n", "0 1 | 0 1 3 | -", "0 1 | 0 1 3 |",
		"0  1 | 0 1 3", "0 1 | 0  1 3", "0,1 | 0,1,3", "0 1 | 0 1,3", "00 1 | 0 1 3", "0 01 | 0 1 3", "0 1 | 0 01 3", "0 1 | 0 1 03", "0 +1 | 0 1 3", "0 -1 | 0 1 3", "0 1 | 0 1 -3", "0 1 - | 0 1 3", "- 0 1 | 0 1 3", "01 | 013", "0 1 | 0 1 3x", "0 1 | 0 1 \xff3", "0 1 | 0 1 ３",
		"0 1 | 0 1", "0 1 | 0 1 3 3", "0 | 0 1 3", "0 1 1 | 0 1 3", "0 1 | 0 1 3 5", "0 1 2 | 0 1 3",
		"0 3 | 0 1 3", "3 1 | 0 1 3", "0 1 | 6 1 3", "0 1 | 0 6 3", "0 1 | 0 1 6", "0 1 | 0 1 40", "0 1 | 0 1 41", "0 1 | 0 1 18446744073709551619", "0 1 | 0 1 4294967299", "0 18446744073709551617 | 0 1 3", strings.Repeat("9", 100000),
		"0 1 | 0 2 3", "0 1 | 0 0 3", "0 2 | 0 1 5", "1 0 | 3 1 0", "0 1 | 0 1 5", "0 1 | 3 1 0", "0 0 | 0 1 0", "0 1 | 1 1 1", strings.Repeat(" 0", 100000) + " | 0 1 3", "0 1 | " + strings.Repeat("0 ", 100000), "0 1 3 | 0 1", "0 1 3 | 0 1 3",
		textByDefinition(c), "0 | - | - | -",
	} {
		if f, code := impl.ParseFunctor(c, d, text); code != impl.ErrSyntax {
			t.Errorf("%.80q: got %v with code %d, want ErrSyntax", text, f, code)
		} else {
			one(f, code).fails(t, impl.ErrSyntax)
		}
	}
	// What respects ends does not respect the identity, or composites.
	group := cyclic(2)
	for _, text := range []string{"0 | 1 1", "0 | 1 0", "0 | 0 2"} {
		one(impl.ParseFunctor(group, group, text)).fails(t, impl.ErrSyntax)
	}
	one(impl.ParseFunctor(group, cyclic(3), "0 | 0 1")).fails(t, impl.ErrSyntax)
	one(impl.ParseFunctor(impl.Category{}, c, "")).fails(t, impl.ErrSyntax)
	one(impl.ParseFunctor(impl.Category{}, c, "0 | 0")).fails(t, impl.ErrSyntax)
	one(impl.ParseFunctor(c, impl.Category{}, "- | -")).fails(t, impl.ErrSyntax)
	one(impl.ParseFunctor(c, impl.Category{}, "0 0 | 0 0 0")).fails(t, impl.ErrSyntax)
	for _, text := range []string{"", "0 1 | 0 1 2", "- | -", "0 0 | 0 0 0", "0 | 0 0", "41"} {
		checkCategoryErrors(t, func(c impl.Category) result { return one(impl.ParseFunctor(c, interval(), text)) })
		checkCategoryErrors(t, func(c impl.Category) result { return one(impl.ParseFunctor(interval(), c, text)) })
		checkCategoryErrors(t, func(c impl.Category) result { return one(impl.ParseFunctor(c, c, text)) })
		checkCategoryErrors(t, func(c impl.Category) result { return one(impl.ParseFunctor(impl.Category{}, c, text)) })
	}
}

func TestCategoryLine(t *testing.T) {
	for _, s := range []struct {
		c     impl.Category
		lines []string
	}{
		{monoid(list(0, 1), list(1, 1)), []string{"0>0: 1=1", "0>0: 1=1"}},
		{cyclic(2), []string{"0>0: 1=1", "0>0: 1=0"}},
		{identityLast(), []string{"0>0: 0=1", "0>0: 0=0"}},
		{discrete(2), []string{"0>0:", "1>1:"}},
		{interval(), []string{"0>0: 1=1", "0>1:", "1>1:"}},
		{backwards(), []string{"0>1:", "1>1:", "0>0: 0=0"}},
		{longChain(), []string{"0>0: 1=1 2=2", "0>1: 4=2", "0>2:", "1>1: 4=4", "1>2:", "2>2:"}},
		{retract(), []string{"0>0: 1=1 2=2", "0>0: 1=1 2=2", "0>1: 3=1", "1>0: 1=3 2=4", "1>1: 3=3"}},
		{parallel(), []string{"0>0: 1=1 2=2", "0>1:", "0>1:", "1>1:"}},
		{cyclic(3), []string{"0>0: 1=1 2=2", "0>0: 1=2 2=0", "0>0: 1=0 2=1"}},
	} {
		for f, line := range s.lines {
			one(impl.CategoryLine(s.c, int64(f))).is(t, line)
		}
		expect(t, "a line for each arrow", len(s.lines) == len(s.c.From), true)
	}
	for _, s := range append(samples(), sample{"largest", largest()}, sample{"group", cyclic(impl.MaxArrows)}, sample{"chain", chain(impl.MaxObjects)}) {
		for f := range s.c.From {
			one(impl.CategoryLine(s.c, int64(f))).is(t, lineByDefinition(s.c, f))
		}
	}
}

func TestCategoryLineErrors(t *testing.T) {
	for _, s := range append(samples(), sample{"largest", largest()}) {
		for _, f := range noNumbers(int64(len(s.c.From))) {
			one(impl.CategoryLine(s.c, f)).fails(t, impl.ErrRange)
		}
	}
	for _, f := range list(0, 1, -1, 40, math.MinInt64, math.MaxInt64) {
		checkCategoryErrors(t, func(c impl.Category) result { return one(impl.CategoryLine(c, f)) })
	}
}

func TestTextsMemory(t *testing.T) {
	for label, call := range map[string]func(g *guard) [][]int64{
		"CategoryText":                   func(g *guard) [][]int64 { impl.CategoryText(g.category(retract())); return nil },
		"ParseCategory":                  func(g *guard) [][]int64 { return listsOf(impl.ParseCategory(textByDefinition(retract()))) },
		"ParseCategory of parallel ones": func(g *guard) [][]int64 { return listsOf(impl.ParseCategory(textByDefinition(parallel()))) },
		"FunctorText":                    func(g *guard) [][]int64 { impl.FunctorText(g.functor(identityByDefinition(retract()))); return nil },
		"ParseFunctor": func(g *guard) [][]int64 {
			return functorListsOf(impl.ParseFunctor(g.category(interval()), g.category(retract()), "0 1 | 0 2 4"))
		},
		"ParseFunctor of one category": func(g *guard) [][]int64 {
			same := g.category(interval())
			return functorListsOf(impl.ParseFunctor(same, same, "0 1 | 0 1 2"))
		},
		"CategoryLine": func(g *guard) [][]int64 { impl.CategoryLine(g.category(retract()), 1); return nil },
	} {
		checkMemory(t, label, call)
	}
}
