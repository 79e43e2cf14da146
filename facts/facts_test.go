package facts

import (
	"slices"
	"testing"
)

// fact makes one of things as they are written.
func fact(name string, things ...string) Fact {
	made := Fact{Name: name}
	for _, text := range things {
		made.Things = append(made.Things, ThingOf(text))
	}
	return made
}

func TestThingsStandInTheirOrder(t *testing.T) {
	rising := []string{"0", "1", "9", "10", "11", "90", "99", "100", "101", "110", "999",
		"a", "aa", "aaa", "aaaa", "aaab", "aab", "ab", "az", "b", "zzzz"}
	for i, one := range rising {
		for j, other := range rising {
			if got := ThingOf(one) < ThingOf(other); got != (i < j) {
				t.Errorf("%q < %q is %v", one, other, got)
			}
		}
		if got := ThingOf(one).String(); got != one {
			t.Errorf("ThingOf(%q) is written %q", one, got)
		}
	}
}

func TestFactsAreWrittenWithoutBlanks(t *testing.T) {
	for want, f := range map[string]Fact{
		"p(a).":         fact("p", "a"),
		"abcd(0).":      fact("abcd", "0"),
		"p(10,abcd).":   fact("p", "10", "abcd"),
		"p(100,0).":     fact("p", "100", "0"),
		"wxyz(a,a).":    fact("wxyz", "a", "a"),
		"p(1,2,3).":     fact("p", "1", "2", "3"),
		"aaaa(zzzz,1).": fact("aaaa", "zzzz", "1"),
	} {
		if got := f.String(); got != want {
			t.Errorf("%v is written %q, want %q", f, got, want)
		}
	}
}

// someFacts are facts in their order.
func someFacts() []Fact {
	return []Fact{
		fact("p", "9"), fact("p", "10"), fact("p", "a"),
		fact("pa", "2", "10"), fact("pa", "2", "b"), fact("pa", "10", "1"), fact("pa", "b", "1"),
		fact("q", "a"),
	}
}

func TestASetKeepsItsFactsInOrder(t *testing.T) {
	all := someFacts()
	const want = "p(9).\np(10).\np(a).\npa(2,10).\npa(2,b).\npa(10,1).\npa(b,1).\nq(a).\n"
	for step := 1; step < len(all); step += 2 { // odd, and there are 8: so each comes once
		var s Set
		for i := range all {
			next := all[i*step%len(all)]
			if s.Has(next) {
				t.Errorf("%v is there ahead of Add", next)
			}
			s.Add(next)
			s.Add(next)
			if !s.Has(next) {
				t.Errorf("%v is not there behind Add", next)
			}
		}
		if got := s.String(); got != want {
			t.Errorf("the set is %q, want %q", got, want)
		}
	}
}

func TestASetHasOnlyItsFacts(t *testing.T) {
	var s Set
	if s.Has(fact("p", "a")) || s.String() != "" {
		t.Errorf("the zero Set is %q", s.String())
	}
	for _, f := range someFacts() {
		s.Add(f)
	}
	for _, f := range []Fact{
		fact("p", "b"), fact("p"), fact("p", "9", "9"), fact("pa", "2"), fact("pa", "b", "2"),
		fact("a", "a"), fact("z", "z"), fact("", "a"),
	} {
		if s.Has(f) {
			t.Errorf("%v is in the set", f)
		}
	}
}

func TestOfGoesThroughOneRelation(t *testing.T) {
	var s Set
	for _, f := range someFacts() {
		s.Add(f)
	}
	for name, want := range map[string][]string{
		"p":  {"p(9).", "p(10).", "p(a)."},
		"pa": {"pa(2,10).", "pa(2,b).", "pa(10,1).", "pa(b,1)."},
		"q":  {"q(a)."},
		"a":  nil,
		"pp": nil,
		"z":  nil,
	} {
		var got []string
		for f := range s.Of(name) {
			got = append(got, f.String())
		}
		if !slices.Equal(got, want) {
			t.Errorf("Of(%q) = %q, want %q", name, got, want)
		}
	}
	count := 0
	for range s.Of("pa") {
		count++
		if count == 2 {
			break
		}
	}
	if count != 2 {
		t.Errorf("Of was left after %d facts", count)
	}
}

func TestRemoveTakesOneFactOut(t *testing.T) {
	all := someFacts()
	for at, gone := range all {
		var s Set
		for _, f := range all {
			s.Add(f)
		}
		s.Remove(gone)
		s.Remove(gone)
		if s.Has(gone) {
			t.Errorf("%v is there behind Remove", gone)
		}
		want := append(someFacts()[:at], all[at+1:]...)
		if got := slices.Collect(s.All()); !slices.EqualFunc(got, want, isSame) {
			t.Errorf("without %v the set is %v, want %v", gone, got, want)
		}
		s.Add(gone)
		if got := slices.Collect(s.All()); !slices.EqualFunc(got, all, isSame) {
			t.Errorf("with %v again the set is %v, want %v", gone, got, all)
		}
	}
}

func isSame(a, b Fact) bool {
	return compare(a, b) == 0
}

func TestRemoveOfWhatIsNotThere(t *testing.T) {
	var s Set
	s.Remove(fact("p", "a"))
	s.Add(fact("p", "b"))
	for _, f := range []Fact{fact("p", "a"), fact("p", "c"), fact("p"), fact("p", "b", "b"), fact("q", "b")} {
		s.Remove(f)
	}
	if got := s.String(); got != "p(b).\n" {
		t.Errorf("the set is %q", got)
	}
}

func TestAllMayBeLeft(t *testing.T) {
	var s Set
	for range s.All() {
		t.Errorf("the zero Set has a fact")
	}
	for _, f := range someFacts() {
		s.Add(f)
	}
	for f := range s.All() {
		if f.String() != "p(9)." {
			t.Errorf("the first fact is %v", f)
		}
		break
	}
}
