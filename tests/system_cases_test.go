package tests

import (
	"slices"
	"strings"
	"testing"

	"loop.example/g00270/impl"
)

func TestGhostsOfCases(t *testing.T) {
	for _, c := range []struct {
		name   string
		leaves []impl.Leaf
		want   []int64
	}{
		{"no rows", nil, nil},
		{"no ghosts", []impl.Leaf{leaf(row(1, 3), row(2, 0)), leaf(row(99, 9999))}, nil},
		{"one ghost alone", []impl.Leaf{leaf(ghost(0))}, []int64{0}},
		{"the first and the last key", []impl.Leaf{leaf(ghost(0), ghost(99))}, []int64{0, 99}},
		{"in one leaf, between others", []impl.Leaf{leaf(row(1, 3), ghost(4), row(5, 5)), leaf(row(99, 1))}, []int64{4}},
		{"in several leaves", []impl.Leaf{leaf(ghost(1), row(4, 4)), leaf(row(5, 5)), leaf(row(7, 0), ghost(8), ghost(20)), leaf(ghost(21))}, []int64{1, 8, 20, 21}},
		{"ghosts alone", []impl.Leaf{leaf(ghost(3), ghost(4)), leaf(ghost(10), ghost(11), ghost(12), ghost(13))}, []int64{3, 4, 10, 11, 12, 13}},
	} {
		for _, built := range []bool{false, true} {
			e := impl.Engine{Base: []impl.Row{row(50, 50)}, Leaves: c.leaves, Built: built}
			if built {
				e.Index = wantedIndex(c.leaves).Pairs
			}
			if got := impl.GhostsOf(e); !same(got, impl.IntsResult{List: c.want}) || !same(got, wantedGhosts(e)) {
				t.Errorf("GhostsOf, %s: %v, want %v", c.name, got, c.want)
			}
		}
	}
	var keys []int64
	for key := range int64(100) {
		keys = append(keys, key)
	}
	if got := impl.GhostsOf(ghostsAlone()); !same(got, impl.IntsResult{List: keys}) {
		t.Errorf("GhostsOf, as many as there are keys: %v", got)
	}
}

// ghostsAlone has a ghost of each key, in leaves that are full.
func ghostsAlone() impl.Engine {
	var e impl.Engine
	for rows := range slices.Chunk(manyGhosts(100), impl.LeafRows) {
		e.Leaves = append(e.Leaves, leaf(rows...))
	}
	return e
}

// ran tells by hand what is left of work of the system that came to its end, but for what it did to leaves and index; it is the transaction 2.
func ran(e impl.Engine, ops string) impl.Engine {
	want := bareOf(e)
	want.Txns = append(want.Txns, impl.Txn{Id: 2, System: true, State: impl.TxnDone})
	want.Wal.Sure = append(want.Wal.Sure, recsData(plain(impl.LogBegin, 2), plain(impl.LogCommit, 2))...)
	want.Commits = append(want.Commits, 2)
	for _, o := range append(opsNamed(ops), opNamed("commit")) {
		want.Acts = append(want.Acts, act(2, o))
	}
	return want
}

func TestRunSystemDone(t *testing.T) {
	for _, c := range []struct {
		name, ops, leaves string
		built             bool
	}{
		{"no ops", "", "", false},
		{"a clean of a ghost", "clean 5", "cleaned", false},
		{"a clean of a row that is no ghost", "clean 7", "", false},
		{"a clean of no row", "clean 6", "", false},
		{"a clean of the first key", "clean 0", "", false},
		{"a clean of the last key", "clean 99", "", false},
		{"a ghost cleaned twice", "clean 5; clean 5", "cleaned", false},
		{"several cleans", "clean 1; clean 5; clean 7; clean 20; clean 21", "cleaned", false},
		{"a pack", "pack", "packed", false},
		{"two packs", "pack; pack", "packed", false},
		{"a build", "build", "", true},
		{"two builds", "build; build", "", true},
		{"a clean, then a pack", "clean 5; pack", "both", false},
		{"a pack, then a clean", "pack; clean 5", "both", false},
		{"a build, then a clean", "build; clean 5", "cleaned", true},
		{"a clean, then a build", "clean 5; build", "cleaned", true},
		{"all of them", "pack; build; clean 5; clean 7; pack; build", "both", true},
	} {
		for _, built := range []bool{false, true} {
			for _, locks := range []string{"", "0 1:is", "98 1:x", "0 1:is | 50 1:x"} {
				e := smallEngine(false, built)
				e.Locks = locksOf(locks)
				want := ran(e, c.ops)
				want.Leaves = tidiedLeaves()[c.leaves]
				if c.built {
					want.Built, want.Index = true, pairsNamed("3:1 3:7 4:20")
				}
				if got := run(t, e, opsNamed(c.ops)); !same(got, impl.SystemResult{Done: true, Engine: want}) {
					t.Errorf("RunSystem, %s: %v, want %v", c.name, got, want)
				}
			}
		}
	}
}

// TestRunSystemForcesTheLog has records of others that are loose: behind the end of the work they are sure.
func TestRunSystemForcesTheLog(t *testing.T) {
	e := smallEngine(false, true)
	e.Wal.Loose = recsData(change(impl.LogSet, 1, 7, some{true, 2}, some{true, 3}))
	e.Txns[0].Undo, e.Locks = []impl.Before{had(7, 2)}, locksOf("0 1:ix | 8 1:x")
	want := bareOf(e)
	want.Leaves[0] = leaf(row(1, 3))
	want.Wal = impl.Wal{Sure: slices.Concat(e.Wal.Sure, e.Wal.Loose, recsData(plain(impl.LogBegin, 2), plain(impl.LogCommit, 2)))}
	want.Txns = append(want.Txns, impl.Txn{Id: 2, System: true, State: impl.TxnDone})
	want.Commits, want.Acts = []int64{2}, []impl.Act{act(2, opNamed("clean 5")), act(2, opNamed("commit"))}
	if got := run(t, e, opsNamed("clean 5")); !same(got, impl.SystemResult{Done: true, Engine: want}) {
		t.Errorf("RunSystem beside loose records: %v, want %v", got, want)
	}
	if got := clean(t, e); !same(got, impl.SystemResult{Done: true, Engine: want}) {
		t.Errorf("CleanEngine beside loose records: %v, want %v", got, want)
	}
	want.Wal = impl.Wal{Sure: e.Wal.Sure, Loose: slices.Concat(e.Wal.Loose, recsData(plain(impl.LogBegin, 2), plain(impl.LogEnd, 2)))}
	want.Leaves, want.Commits, want.Txns[1].State = e.Leaves, nil, impl.TxnGone
	want.Acts = []impl.Act{act(2, opNamed("abort"))}
	if got := build(t, e); !same(got, impl.SystemResult{Engine: want}) {
		t.Errorf("BuildEngine beside loose records, in whose way one is: %v, want %v", got, want)
	}
}

// gaveUp tells by hand what is left of work of the system that gave up behind some ops, but for what these did to leaves and index.
func gaveUp(e impl.Engine, done string) impl.Engine {
	want := bareOf(e)
	own := int64(len(e.Txns) + 1)
	want.Txns = append(want.Txns, impl.Txn{Id: own, System: true, State: impl.TxnGone})
	want.Wal.Loose = append(want.Wal.Loose, recsData(plain(impl.LogBegin, own), plain(impl.LogEnd, own))...)
	for _, o := range append(opsNamed(done), opNamed("abort")) {
		want.Acts = append(want.Acts, act(own, o))
	}
	return want
}

// tidiedLeaves has the leaves of smallEngine as they are behind a clean of its ghost, a pack, and both.
func tidiedLeaves() map[string][]impl.Leaf {
	return map[string][]impl.Leaf{
		"":        smallEngine(false, false).Leaves,
		"cleaned": {leaf(row(1, 3)), leaf(row(7, 3), row(20, 4))},
		"packed":  {leaf(row(1, 3), ghost(5), row(7, 3), row(20, 4))},
		"both":    {leaf(row(1, 3), row(7, 3), row(20, 4))},
	}
}

func TestRunSystemGivesUp(t *testing.T) {
	for _, c := range []struct {
		name, locks, done, rest, leaves string
	}{
		{"a key that is read", "0 1:is | 6 1:s", "", "clean 5", ""},
		{"a key that is put", "0 1:ix | 6 1:x", "", "clean 5", ""},
		{"a key that is no ghost", "0 1:ix | 8 1:x", "", "clean 7", ""},
		{"a key of no row", "0 1:ix | 7 1:x", "", "clean 6", ""},
		{"the first key", "1 1:is", "", "clean 0", ""},
		{"the last key", "100 1:is", "", "clean 99", ""},
		{"the whole is scanned", "0 1:s", "", "clean 5", ""},
		{"the whole is scanned by one who puts", "0 1:six", "", "clean 5", ""},
		{"the whole is one's own", "0 1:x", "", "pack", ""},
		{"the whole is one's own, a build", "0 1:x", "", "build", ""},
		{"one puts, a build", "0 1:ix | 8 1:x", "", "build", ""},
		{"one waits for the whole, a pack", "0 1:ix 2?s", "", "pack", ""},
		{"one waits for the whole, a clean", "0 1:ix 2?s", "", "clean 5", ""},
		{"one waits for the whole, a build", "0 1:s 2?ix", "", "build", ""},
		{"one waits to convert", "0 1:s 2:s 2?six", "", "build", ""},
		{"several wait", "0 1:ix 2?s 3?is 4?x", "", "pack; clean 5", ""},
		{"several wait for the key", "0 1:ix 2:is 3:is | 6 1:x 2?s 3?s", "", "clean 5; pack", ""},
		{"a key, behind a clean", "0 1:ix | 8 1:x", "clean 5", "clean 7", "cleaned"},
		{"a key, behind a clean, and more behind it", "0 1:ix | 8 1:x", "clean 5", "clean 7; clean 20; pack", "cleaned"},
		{"a key, behind a pack", "0 1:ix | 6 1:x", "pack", "clean 5", "packed"},
		{"a key that several wait for, behind a pack", "0 1:ix 2:is 3:is | 6 1:x 2?s 3?s", "pack", "clean 5", "packed"},
		{"the whole, which it holds to pack", "0 1:ix | 8 1:x", "pack", "build", "packed"},
		{"the whole, which it holds to clean", "0 1:ix | 8 1:x", "clean 5", "build", "cleaned"},
		{"the whole, which it holds to pack, and one scans", "0 1:s", "pack", "clean 5", "packed"},
		{"the whole, which it holds to build, and one scans", "0 1:s", "build", "clean 5", ""},
		{"the whole, which it holds for both", "0 1:s", "pack; build; pack", "clean 5; build", "packed"},
		{"a key, behind all of them", "0 1:is | 21 1:s", "build; clean 5; pack; clean 1; clean 7", "clean 20; pack", "both"},
	} {
		for _, built := range []bool{false, true} {
			e := lockedEngine(4, c.locks)
			if !built {
				e.Built, e.Index = false, nil
			}
			checkEngineFault(t, c.name, e, impl.OK)
			want := gaveUp(e, c.done)
			want.Leaves = tidiedLeaves()[c.leaves]
			if strings.Contains(c.done, "build") {
				want.Built, want.Index = true, pairsNamed("3:1 3:7 4:20")
			}
			if got := run(t, e, opsNamed(c.done+";"+c.rest)); !same(got, impl.SystemResult{Engine: want}) {
				t.Errorf("RunSystem, %s: %v, want %v", c.name, got, want)
			}
		}
	}
}

// TestGivingUpLeavesOthersWhereTheyStood has others who wait go on behind it as if it had not been there.
func TestGivingUpLeavesOthersWhereTheyStood(t *testing.T) {
	ahead := play(t, begun(keyStore(), "uuu"), "1 delete 5; 2 get 5; 3 get 5").Engine
	got := clean(t, ahead)
	if got.Done || statesIn(got.Engine) != "live waits waits gone" || !sameLocks(got.Engine.Locks, locksOf("0 1:ix 2:is 3:is | 6 1:x 2?s 3?s")) {
		t.Fatalf("CleanEngine of a ghost that others wait for: %v", got)
	}
	then := play(t, got.Engine, "1 abort; resume 2")
	if cameTo(then) != "ok 50" || !impl.CanResume(then.Engine, 3) {
		t.Errorf("who waited is told %s", cameTo(then))
	}
	if late := run(t, then.Engine, opsNamed("clean 5")); late.Done || statesIn(late.Engine) != "gone live waits gone gone" {
		t.Errorf("one reads what is to be cleaned: %v", late)
	}
	ended := play(t, then.Engine, "2 commit; resume 3; 3 commit").Engine
	if all := clean(t, ended); !all.Done || statesIn(all.Engine) != "gone done done gone done" {
		t.Errorf("all are at their end: %v", all)
	}
}

func TestCleanEngineCases(t *testing.T) {
	store := func(who, lines string) impl.Engine { return play(t, begun(keyStore(), who), lines).Engine }
	for _, c := range []struct {
		name string
		e    impl.Engine
		done bool
		left []int64
		acts string
	}{
		{"no rows", impl.Engine{}, true, nil, "commit"},
		{"no ghosts", keyStore(), true, nil, "commit"},
		{"no ghosts, and all is one's own", lockedGhostless(), true, nil, "commit"},
		{"one", store("u", "1 delete 3; 1 commit"), true, nil, "clean 3; commit"},
		{"some", store("u", "1 delete 9; 1 delete 0; 1 delete 3; 1 commit"), true, nil, "clean 0; clean 3; clean 9; commit"},
		{"of one that was put and taken back", store("u", "1 put 42 1; 1 abort"), true, nil, "clean 42; commit"},
		{"the first one is locked", store("uu", "1 delete 4; 1 delete 6; 1 commit; 2 get 4"), false, []int64{4, 6}, "abort"},
		{"the last one is locked", store("uu", "1 delete 4; 1 delete 6; 1 commit; 2 get 6"), false, []int64{6}, "clean 4; abort"},
		{"one between is locked", store("uu", "1 delete 4; 1 delete 5; 1 delete 6; 1 commit; 2 get 5"), false, []int64{5, 6}, "clean 4; abort"},
		{"of one that did not commit", store("u", "1 delete 4"), false, []int64{4}, "abort"},
		{"one scans", store("uu", "1 delete 4; 1 commit; 2 scan 0 1"), false, []int64{4}, "abort"},
		{"one puts another key", store("uu", "1 delete 4; 1 commit; 2 put 5 1"), true, nil, "clean 4; commit"},
		{"one reads another key", store("uu", "1 delete 4; 1 commit; 2 get 5"), true, nil, "clean 4; commit"},
	} {
		got := clean(t, c.e)
		var want []impl.Act
		for _, o := range opsNamed(c.acts) {
			want = append(want, act(int64(len(c.e.Txns)+1), o))
		}
		if got.Code != impl.OK || got.Done != c.done || !slices.Equal(impl.GhostsOf(got.Engine).List, c.left) || !same(got.Engine.Acts[len(c.e.Acts):], want) {
			t.Errorf("CleanEngine, %s: %v, want %v, the ghosts %v and the acts %v", c.name, got, c.done, c.left, want)
		}
	}
	all := clean(t, ghostsAlone())
	if !all.Done || len(all.Engine.Leaves) != 0 || len(all.Engine.Acts) != 101 {
		t.Errorf("CleanEngine of a ghost of each key: %v", all)
	}
	if again := clean(t, all.Engine); !again.Done || len(again.Engine.Acts) != 102 || again.Engine.Commits[1] != 2 {
		t.Errorf("CleanEngine once more: %v", again)
	}
}

// lockedGhostless has nothing to be cleaned, so that nobody can be in the way.
func lockedGhostless() impl.Engine {
	e := keyStore()
	e.Txns, e.Locks = liveTxns(2, 0), locksOf("0 1:x 2?x")
	e.Txns[1].State, e.Txns[1].Wait = impl.TxnWaits, opNamed("scan 0 1")
	return e
}

func TestPackEngineCases(t *testing.T) {
	thin := []impl.Leaf{leaf(row(1, 1)), leaf(ghost(2), row(3, 3)), leaf(row(4, 0)), leaf(row(5, 5), row(6, 6), row(7, 7)), leaf(row(8, 8))}
	full := []impl.Leaf{leaf(row(1, 1), ghost(2), row(3, 3), row(4, 0)), leaf(row(5, 5), row(6, 6), row(7, 7), row(8, 8))}
	for _, c := range []struct {
		name, locks  string
		leaves, want []impl.Leaf
		done         bool
	}{
		{"no leaves", "", nil, nil, true},
		{"one row", "", []impl.Leaf{leaf(row(9, 9))}, []impl.Leaf{leaf(row(9, 9))}, true},
		{"leaves that are full already", "", full, full, true},
		{"leaves that are thin", "", thin, full, true},
		{"the last one is not full then", "", thin[:4], []impl.Leaf{full[0], leaf(row(5, 5), row(6, 6), row(7, 7))}, true},
		{"others read and put", "0 1:is 2:ix | 3 2:x | 5 1:s", thin, full, true},
		{"others scan", "0 1:s 2:s", thin, full, true},
		{"one scans and puts", "0 1:six | 2 1:x", thin, full, true},
		{"one has all", "0 1:x", thin, thin, false},
		{"one waits", "0 1:ix 2?s", thin, thin, false},
		{"one waits for a key", "0 1:ix 2:is | 2 1:x 2?s", thin, full, true},
	} {
		e := lockedEngine(2, c.locks)
		e.Leaves, e.Index = c.leaves, wantedIndex(c.leaves).Pairs
		got := pack(t, e)
		if got.Done != c.done || !sameLeaves(got.Engine.Leaves, c.want) || !same(got.Engine.Index, e.Index) {
			t.Errorf("PackEngine, %s: %v, want %v and %v", c.name, got, c.done, c.want)
		}
		if fill := impl.FillOf(got.Engine.Leaves); c.done && len(rowsIn(c.leaves))%impl.LeafRows == 0 && len(c.leaves) > 0 && fill.Value != 100 {
			t.Errorf("PackEngine, %s: %v of 100 is full", c.name, fill)
		}
	}
}

func TestBuildEngineCases(t *testing.T) {
	pairs := pairsNamed("3:1 3:7 4:20")
	for _, c := range []struct {
		name, locks string
		built, done bool
	}{
		{"alone", "", false, true},
		{"alone, Built already", "", true, true},
		{"others read", "0 1:is 2:is | 2 1:s", false, true},
		{"others scan", "0 1:s 2:s", false, true},
		{"others scan, Built already", "0 1:s 2:s", true, true},
		{"one puts", "0 1:ix | 2 1:x", false, false},
		{"one puts, Built already", "0 1:ix | 2 1:x", true, false},
		{"one scans and puts", "0 1:six", false, false},
		{"one has all", "0 1:x", false, false},
		{"one waits", "0 1:s 2?ix", false, false},
		{"one waits, Built already", "0 1:s 2?ix", true, false},
	} {
		e := lockedEngine(2, c.locks)
		if !c.built {
			e.Built, e.Index = false, nil
		}
		want := pairs
		if !c.built && !c.done {
			want = nil
		}
		got := build(t, e)
		if got.Done != c.done || got.Engine.Built != (c.built || c.done) || !same(got.Engine.Index, want) {
			t.Errorf("BuildEngine, %s: %v, want %v and %v", c.name, got, c.done, want)
		}
	}
	none := build(t, impl.Engine{})
	if !none.Done || !none.Engine.Built || len(none.Engine.Index) != 0 {
		t.Errorf("BuildEngine of no rows: %v", none)
	}
	ghosts := build(t, ghostsAlone())
	if !ghosts.Done || !ghosts.Engine.Built || len(ghosts.Engine.Index) != 0 || len(impl.GhostsOf(ghosts.Engine).List) != 100 {
		t.Errorf("BuildEngine of ghosts alone: %v", ghosts)
	}
}

// TestOneBehindTheOther tells all three by hand, each done to what the one ahead of it left.
func TestOneBehindTheOther(t *testing.T) {
	e := impl.Engine{Base: []impl.Row{row(2, 2)}, Leaves: []impl.Leaf{leaf(ghost(0), row(1, 5)), leaf(ghost(2)), leaf(row(7, 5), row(9, 0))}}
	got := build(t, pack(t, clean(t, e).Engine).Engine)
	want := impl.Engine{
		Base:    e.Base,
		Leaves:  []impl.Leaf{leaf(row(1, 5), row(7, 5), row(9, 0))},
		Index:   pairsNamed("0:9 5:1 5:7"),
		Built:   true,
		Commits: []int64{1, 2, 3},
		Acts: []impl.Act{
			act(1, opNamed("clean 0")), act(1, opNamed("clean 2")), act(1, opNamed("commit")),
			act(2, opNamed("pack")), act(2, opNamed("commit")), act(3, opNamed("build")), act(3, opNamed("commit")),
		},
	}
	for id := int64(1); id <= 3; id++ {
		want.Txns = append(want.Txns, impl.Txn{Id: id, System: true, State: impl.TxnDone})
		want.Wal.Sure = append(want.Wal.Sure, recsData(plain(impl.LogBegin, id), plain(impl.LogCommit, id))...)
	}
	if !same(got, impl.SystemResult{Done: true, Engine: want}) {
		t.Errorf("one behind the other: %v, want %v", got, want)
	}
}
