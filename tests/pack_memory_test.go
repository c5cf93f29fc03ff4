package tests

import (
	"testing"

	"loop.example/g00270/impl"
)

// packCalls has what leaves are put otherwise to, at places that have two leaves and at others.
func packCalls(list []impl.Leaf) []impl.LeavesResult {
	answers := []impl.LeavesResult{impl.PackLeaves(list)}
	last := int64(len(list)) - 1
	for _, at := range []int64{-1, 0, 1, 2, last - 2, last - 1, last, last + 1} {
		answers = append(answers, impl.MergeLeaves(list, at), impl.EvenLeaves(list, at))
	}
	return answers
}

func TestSameRowsChangesNeither(t *testing.T) {
	lists := oddLeaves()
	for i, one := range lists[:len(lists)-1] {
		other := lists[(i*7+3)%(len(lists)-1)]
		for _, second := range [][]impl.Leaf{other, one, impl.PackLeaves(one).Leaves} {
			a, b := roomyLeaves(one), roomyLeaves(second)
			keptA, keptB := keptRows(wholeLeaves(a)), keptRows(wholeLeaves(b))
			first := impl.SameRows(a, b)
			if impl.SameRows(a, b) != first || impl.SameRows(b, a) != first {
				t.Fatalf("SameRows of %v and %v is not the same each time", one, second)
			}
			if !sameRowLists(wholeLeaves(a), keptA) || !sameRowLists(wholeLeaves(b), keptB) {
				t.Fatalf("SameRows of %v and %v changes them", one, second)
			}
		}
	}
}
