package rising

import (
	"slices"
	"testing"
)

// fromBits answers the rising list of the numbers of the bits that are set.
func fromBits(bits int) []int {
	var list []int
	for i := 0; bits>>i != 0; i++ {
		if bits>>i&1 == 1 {
			list = append(list, i)
		}
	}
	return list
}

func TestLeapFindsTheFirstThatIsNotBelow(t *testing.T) {
	for length := range 20 {
		var list []int
		for i := range length {
			list = append(list, 2*i)
		}
		for from := 0; from <= length; from++ {
			for sought := -1; sought <= 2*length; sought++ {
				want := from
				for want < length && list[want] < sought {
					want++
				}
				if got := leap(list, from, sought); got != want {
					t.Fatalf("leap(%v, %d, %d) = %d, want %d", list, from, sought, got, want)
				}
			}
		}
	}
}

func TestAddKeepsTheListRising(t *testing.T) {
	var list []string
	for _, word := range []string{"b", "a", "ab", "b", "c", "a", ""} {
		list = Add(list, word)
	}
	if want := []string{"", "a", "ab", "b", "c"}; !slices.Equal(list, want) {
		t.Errorf("Add = %q, want %q", list, want)
	}
}

func TestTwoLists(t *testing.T) {
	for one := range 64 {
		for two := range 64 {
			a, b := fromBits(one), fromBits(two)
			if got, want := Common(a, b), fromBits(one&two); !slices.Equal(got, want) {
				t.Fatalf("Common(%v, %v) = %v, want %v", a, b, got, want)
			}
			if got, want := Without(a, b), fromBits(one&^two); !slices.Equal(got, want) {
				t.Fatalf("Without(%v, %v) = %v, want %v", a, b, got, want)
			}
		}
		for value := range 7 {
			if got, want := Has(fromBits(one), value), one>>value&1 == 1; got != want {
				t.Fatalf("Has(%v, %d) = %v", fromBits(one), value, got)
			}
		}
	}
}

func TestCommonOfOtherNumbersOfLists(t *testing.T) {
	if got := Common[rune](); len(got) != 0 {
		t.Errorf("Common of no lists = %v", got)
	}
	for one := range 32 {
		if got, want := Common(fromBits(one)), fromBits(one); !slices.Equal(got, want) {
			t.Fatalf("Common(%v) = %v", want, got)
		}
		for two := range 32 {
			for three := range 32 {
				got := Common(fromBits(one), fromBits(two), fromBits(three))
				if want := fromBits(one & two & three); !slices.Equal(got, want) {
					t.Fatalf("Common of %b, %b and %b = %v, want %v", one, two, three, got, want)
				}
			}
		}
	}
}

func TestAnswersAreNewLists(t *testing.T) {
	list := []int{1, 2}
	Common(list)[0] = 9
	Common(list, list)[0] = 9
	Without(list, nil)[0] = 9
	if !slices.Equal(list, []int{1, 2}) {
		t.Errorf("the list has become %v", list)
	}
}
