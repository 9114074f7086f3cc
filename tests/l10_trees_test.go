package tests

import (
	"math"
	"math/bits"
	"slices"
	"testing"

	"loop.example/sidescross/impl"
)

func treeOk(n net, set int) bool {
	return impl.TreeOk(n.nodes, n.wires, set)
}

func treesOf(n net) []int {
	return impl.TreesOf(n.nodes, n.wires)
}

func treePair(n net) (int, int, bool) {
	return impl.TreePair(n.nodes, n.wires)
}

func pairOn(n net, set int) bool {
	return impl.PairOn(n.nodes, n.wires, set)
}

func pairSomewhere(n net) int {
	return impl.PairSomewhere(n.nodes, n.wires)
}

func treeReply(n net, first int, second int, wire int) int {
	return impl.TreeReply(n.nodes, n.wires, first, second, wire)
}

func treesThrough(n net, wire int) int {
	return impl.TreesThrough(n.nodes, n.wires, wire)
}

// treeCase is a net with what was found by hand: its trees, the pair of them, both 0 if there is none, and all sets of nodes on which there is a pair.
type treeCase struct {
	net
	trees         []int
	first, second int
	pairs         []int
}

func treeCases() []treeCase {
	return []treeCase{
		// Nodes without wires, all of them or some.
		{netOf(2), nil, 0, 0, nil},
		{netOf(3), nil, 0, 0, nil},
		{netOf(5), nil, 0, 0, nil},
		{netOf(3, "02", "20"), nil, 0, 0, nil},
		{netOf(3, "01", "10"), nil, 0, 0, []int{3}},
		{netOf(4, "03", "30", "31", "31"), nil, 0, 0, []int{11}},
		{netOf(5, "02", "02", "02", "02", "13", "13", "34", "34"), nil, 0, 0, nil},
		{netOf(5, "23", "34", "42", "23", "34", "42", "23", "34"), nil, 0, 0, nil},
		// Two nodes alone.
		{netOf(2, "01"), []int{1}, 0, 0, nil},
		{netOf(2, "10"), []int{1}, 0, 0, nil},
		{netOf(2, "01", "10"), []int{1, 2}, 1, 2, []int{3}},
		{netOf(2, "01", "01", "01"), []int{1, 2, 4}, 1, 2, []int{3}},
		{netOf(2, "01", "10", "01", "01", "10", "01", "10", "10"), []int{1, 2, 4, 8, 16, 32, 64, 128}, 1, 2, []int{3}},
		// Nets in two parts, and nets with just one tree.
		{netOf(4, "01", "23"), nil, 0, 0, nil},
		{netOf(5, "01", "23", "24", "34", "10"), nil, 0, 0, []int{3}},
		{netOf(3, "01", "02"), []int{3}, 0, 0, nil},
		{netOf(3, "02", "12"), []int{3}, 0, 0, nil},
		{netOf(4, "20", "21", "23"), []int{7}, 0, 0, nil},
		{netOf(5, "02", "23", "34", "41"), []int{15}, 0, 0, nil},
		{netOf(5, "41", "23", "43", "20"), []int{15}, 0, 0, nil},
		// Rings, and wires side by side.
		{netOf(3, "01", "02", "21"), []int{3, 5, 6}, 0, 0, nil},
		{netOf(3, "02", "20", "21"), []int{5, 6}, 0, 0, nil},
		{netOf(3, "02", "02", "21", "21"), []int{5, 6, 9, 10}, 5, 10, []int{7}},
		{netOf(3, "02", "02", "21", "21", "01"), []int{5, 6, 9, 10, 17, 18, 20, 24}, 5, 10, []int{7}},
		{netOf(3, "01", "01", "02", "21"), []int{5, 6, 9, 10, 12}, 5, 10, []int{3, 7}},
		{netOf(3, "01", "02", "02", "02"), []int{3, 5, 9}, 0, 0, nil},
		{netOf(4, "02", "03", "23", "21", "31"), []int{11, 13, 14, 19, 21, 22, 25, 26}, 0, 0, nil},
		// The tree with the least number is in no pair, as the other wires are a ring.
		{netOf(4, "01", "02", "03", "12", "13", "23"), []int{7, 13, 14, 19, 22, 25, 26, 28, 35, 37, 41, 42, 44, 49, 50, 52}, 13, 50, []int{15}},
		{netOf(5, "02", "20", "23", "32", "34", "43", "41", "14"), []int{85, 86, 89, 90, 101, 102, 105, 106, 149, 150, 153, 154, 165, 166, 169, 170}, 85, 170, []int{31}},
		// Pairs on some nodes only, or on the ends alone.
		{netOf(4, "01", "10", "02", "03"), []int{13, 14}, 0, 0, []int{3}},
		{netOf(4, "02", "02", "21", "21", "23"), []int{21, 22, 25, 26}, 0, 0, []int{7}},
		{netOf(5, "04", "04", "41", "41", "24", "34"), []int{53, 54, 57, 58}, 0, 0, []int{19}},
		{netOf(5, "01", "01", "02", "12", "03", "13", "04", "14"), []int{85, 86, 89, 90, 92, 101, 102, 105, 106, 108, 116, 120, 149, 150, 153, 154, 156, 165, 166, 169, 170, 172, 180, 184, 212, 216, 228, 232}, 85, 170, []int{3, 7, 11, 15, 19, 23, 27, 31}},
	}
}

// treeNets returns all nets of chapter 9, and those of treeCases.
func treeNets() []net {
	nets := allNets()
	for _, x := range treeCases() {
		nets = append(nets, x.net)
	}
	return nets
}

// wantTreeOn asks for wires between nodes of a set, none of them needless, by which all these nodes have one label.
func wantTreeOn(n net, nodes int, set int) bool {
	for at, wire := range n.wires {
		if inSet(set, at) && (!inSet(nodes, wire.A) || !inSet(nodes, wire.B)) {
			return false
		}
	}
	labels, allNeeded := labelled(n, set)
	for node, label := range labels {
		if inSet(nodes, node) && label != labels[0] {
			return false
		}
	}
	return allNeeded
}

func nodesAll(n net) int {
	return 1<<n.nodes - 1
}

func wantTreesOn(n net, nodes int) []int {
	var trees []int
	for set := range n.sets() {
		if wantTreeOn(n, nodes, set) {
			trees = append(trees, set)
		}
	}
	return trees
}

func wantTrees(n net) []int {
	return wantTreesOn(n, nodesAll(n))
}

// wantPair returns the least pair among trees by the first one, and then by the second one.
func wantPair(trees []int) (int, int, bool) {
	var pairs [][]int
	for _, first := range trees {
		for _, second := range trees {
			if first&second == 0 {
				pairs = append(pairs, []int{first, second})
			}
		}
	}
	if len(pairs) == 0 {
		return 0, 0, false
	}
	least := slices.MinFunc(pairs, slices.Compare[[]int])
	return least[0], least[1], true
}

func hasEnds(set int) bool {
	return inSet(set, 0) && inSet(set, 1)
}

// wantPairs returns all sets of nodes on which there are two trees without a common wire.
func wantPairs(n net) []int {
	var sets []int
	for set := range nodesAll(n) + 1 {
		if !hasEnds(set) {
			continue
		}
		if _, _, ok := wantPair(wantTreesOn(n, set)); ok {
			sets = append(sets, set)
		}
	}
	return sets
}

// outOf returns numbers that are none from 0 up to the greatest one.
func outOf(greatest int) []int {
	return []int{
		-1, -2, -greatest, -greatest - 1, -greatest - 2, greatest + 1, greatest + 2, 2*greatest + 1, 2*greatest + 2,
		1 << 8, 1<<9 - 1, 63 + greatest, 64 + greatest, 1 << 32, 1<<32 + greatest, 1 << 62, 1<<62 + greatest,
		math.MinInt, math.MinInt + 1, math.MinInt + greatest, math.MaxInt, math.MaxInt - 1,
	}
}

// eachOut calls visit with each number that is none from 0 up to the greatest one.
func eachOut(greatest int, visit func(number int)) {
	for _, number := range outOf(greatest) {
		if number < 0 || number > greatest {
			visit(number)
		}
	}
}

func TestP64TreesByHand(t *testing.T) {
	for _, x := range treeCases() {
		for set := range x.sets() {
			if treeOk(x.net, set) != slices.Contains(x.trees, set) {
				t.Fatal(x, set)
			}
		}
	}
}

func TestP64TreesAreThoseOfLabelledNodes(t *testing.T) {
	for _, n := range treeNets() {
		before := slices.Clone(n.wires)
		for set := range n.sets() {
			if treeOk(n, set) != wantTreeOn(n, nodesAll(n), set) {
				t.Fatal(n, set)
			}
		}
		wantSameWires(t, n, before)
	}
}

func TestP64TreesLinkAllAndNoWireOfThemIsNeedless(t *testing.T) {
	for _, n := range treeNets() {
		for set := range n.sets() {
			if !treeOk(n, set) {
				continue
			}
			if !linksEnds(n, set) || bits.OnesCount(uint(set)) != n.nodes-1 {
				t.Fatal(n, set)
			}
			for wire := range n.wires {
				if treeOk(n, set^1<<wire) {
					t.Fatal(n, set, wire)
				}
			}
		}
	}
}

func TestP64NoTrees(t *testing.T) {
	for _, n := range treeNets() {
		eachOut(n.sets()-1, func(set int) {
			if treeOk(n, set) {
				t.Fatal(n, set)
			}
		})
	}
	for _, n := range badNets() {
		for _, set := range append(outOf(255), 0, 1, 2, 3, 5, 7, 15, 31, 128, 255) {
			if treeOk(n, set) {
				t.Fatal(n, set)
			}
		}
	}
}

func TestP65AllTreesByHand(t *testing.T) {
	for _, x := range treeCases() {
		wantList(t, "trees", treesOf(x.net), x.trees...)
	}
}

func TestP65AllTreesAreThoseOfLabelledNodes(t *testing.T) {
	for _, n := range treeNets() {
		wantList(t, "trees", treesOf(n), wantTrees(n)...)
	}
}

func TestP65AllTreesAreListed(t *testing.T) {
	for _, n := range treeNets() {
		trees := treesOf(n)
		wantAscending(t, trees)
		for set := range n.sets() {
			if treeOk(n, set) != slices.Contains(trees, set) {
				t.Fatal(n, set, trees)
			}
		}
	}
}

func TestP65NoTreesListed(t *testing.T) {
	for _, n := range badNets() {
		wantList(t, "no net", treesOf(n))
	}
}

func TestP65TreesAreNew(t *testing.T) {
	wantNewSets(t, treesOf)
}

func wantTreePair(t *testing.T, n net, first int, second int, ok bool) {
	t.Helper()
	before := slices.Clone(n.wires)
	if a, b, found := treePair(n); a != first || b != second || found != ok {
		t.Fatalf("%v: %d, %d, %v instead of %d, %d, %v", n, a, b, found, first, second, ok)
	}
	wantSameWires(t, n, before)
}

func TestP66TwoTreesByHand(t *testing.T) {
	for _, x := range treeCases() {
		wantTreePair(t, x.net, x.first, x.second, x.first > 0)
	}
}

func TestP66TwoTreesAreTheLeastOfAll(t *testing.T) {
	for _, n := range treeNets() {
		first, second, ok := wantPair(wantTrees(n))
		wantTreePair(t, n, first, second, ok)
	}
}

func TestP66TwoTreesJoinWhateverIsCut(t *testing.T) {
	for _, n := range treeNets() {
		first, second, ok := treePair(n)
		if !ok {
			continue
		}
		if !treeOk(n, first) || !treeOk(n, second) || first&second != 0 || len(n.wires) < 2*(n.nodes-1) {
			t.Fatal(n, first, second)
		}
		for _, turn := range players() {
			if wiresWinner(n, freeOwners(n), turn) != impl.First {
				t.Fatal(n, turn)
			}
		}
	}
}

func TestP66NoTwoTrees(t *testing.T) {
	for _, n := range badNets() {
		wantTreePair(t, n, 0, 0, false)
	}
}

func TestP67PairsByHand(t *testing.T) {
	for _, x := range treeCases() {
		for set := range nodesAll(x.net) + 1 {
			if pairOn(x.net, set) != slices.Contains(x.pairs, set) {
				t.Fatal(x, set)
			}
		}
	}
}

func TestP67PairsAreThoseOfLabelledNodes(t *testing.T) {
	for _, n := range treeNets() {
		before, pairs := slices.Clone(n.wires), wantPairs(n)
		for set := range nodesAll(n) + 1 {
			if pairOn(n, set) != slices.Contains(pairs, set) {
				t.Fatal(n, set, pairs)
			}
		}
		wantSameWires(t, n, before)
	}
}

// wiresBetween returns how many wires of a net are between two nodes.
func wiresBetween(n net, a int, b int) int {
	count := 0
	for _, wire := range n.wires {
		if wire.A == a && wire.B == b || wire.A == b && wire.B == a {
			count++
		}
	}
	return count
}

func TestP67OnAllNodesItIsAPairOfTrees(t *testing.T) {
	for _, n := range treeNets() {
		if _, _, ok := treePair(n); pairOn(n, nodesAll(n)) != ok {
			t.Fatal("all nodes", n)
		}
		if pairOn(n, 3) != (wiresBetween(n, 0, 1) >= 2) {
			t.Fatal("the ends alone", n)
		}
	}
}

// partedEnough reports whether, however the nodes of a set are shared among parts, there are at least twice one fewer wires between parts than parts: just then there are two trees on the set.
func partedEnough(n net, nodes int) bool {
	count := 1
	for range n.nodes {
		count *= n.nodes
	}
	for number := range count {
		parts, used := make([]int, n.nodes), 0
		for node := range parts {
			parts[node] = number % n.nodes
			number /= n.nodes
			if inSet(nodes, node) {
				used |= 1 << parts[node]
			}
		}
		between := 0
		for _, wire := range n.wires {
			if inSet(nodes, wire.A) && inSet(nodes, wire.B) && parts[wire.A] != parts[wire.B] {
				between++
			}
		}
		if between < 2*(bits.OnesCount(uint(used))-1) {
			return false
		}
	}
	return true
}

func TestP67PairsHaveWiresBetweenAllParts(t *testing.T) {
	for _, n := range treeNets() {
		for set := range nodesAll(n) + 1 {
			if hasEnds(set) && pairOn(n, set) != partedEnough(n, set) {
				t.Fatal(n, set)
			}
		}
	}
}

func TestP67NoPairs(t *testing.T) {
	for _, n := range treeNets() {
		eachOut(nodesAll(n), func(set int) {
			if pairOn(n, set) {
				t.Fatal(n, set)
			}
		})
		for set := range nodesAll(n) + 1 {
			if !hasEnds(set) && pairOn(n, set) {
				t.Fatal("without an end", n, set)
			}
		}
	}
	for _, n := range badNets() {
		for _, set := range append(outOf(31), 0, 1, 2, 3, 7, 11, 15, 31, 63, 127) {
			if pairOn(n, set) {
				t.Fatal(n, set)
			}
		}
	}
}

func TestP67NoPairsWithoutAnEnd(t *testing.T) {
	// Each two nodes have two trees on them, but sets without an end do not count.
	full := netOf(3, "01", "01", "02", "02", "12", "12")
	for set, want := range []bool{false, false, false, true, false, false, false, true, false, false} {
		if pairOn(full, set) != want {
			t.Fatal(set)
		}
	}
}

func TestP68LeastPairsByHand(t *testing.T) {
	for _, x := range treeCases() {
		want := -1
		if len(x.pairs) > 0 {
			want = x.pairs[0]
		}
		if set := pairSomewhere(x.net); set != want {
			t.Fatal(x, set)
		}
	}
}

func TestP68LeastPairsAreThoseOfLabelledNodes(t *testing.T) {
	for _, n := range treeNets() {
		before, want := slices.Clone(n.wires), -1
		if pairs := wantPairs(n); len(pairs) > 0 {
			want = slices.Min(pairs)
		}
		if set := pairSomewhere(n); set != want {
			t.Fatal(n, set, want)
		}
		wantSameWires(t, n, before)
	}
}

func TestP68TwoTreesOnSomeNodesDecide(t *testing.T) {
	for _, n := range treeNets() {
		set := pairSomewhere(n)
		if (set != -1) != (wiresWinner(n, freeOwners(n), impl.Second) == impl.First) {
			t.Fatal(n, set)
		}
		if set != -1 && !pairOn(n, set) {
			t.Fatal("no pair", n, set)
		}
		for less := range set {
			if pairOn(n, less) {
				t.Fatal("not the least", n, set, less)
			}
		}
	}
}

func TestP68NoPairsSomewhere(t *testing.T) {
	for _, n := range badNets() {
		if set := pairSomewhere(n); set != -1 {
			t.Fatal(n, set)
		}
	}
}

func TestP69RepliesByHand(t *testing.T) {
	two, ring := netOf(2, "01", "10"), netOf(3, "02", "02", "21", "21", "01")
	full, chain := netOf(4, "01", "02", "03", "12", "13", "23"), netOf(5, "02", "20", "23", "32", "34", "43", "41", "14")
	for _, x := range []struct {
		n                         net
		first, second, wire, want int
	}{
		{two, 1, 2, 0, 1}, {two, 2, 1, 1, 0}, {two, 1, 2, 1, -1}, {two, 1, 1, 0, 0}, {two, 2, 2, 1, 1}, {two, 1, 3, 0, -1}, {two, 0, 1, 0, -1},
		{ring, 5, 10, 0, 1}, {ring, 5, 10, 2, 3}, {ring, 5, 10, 1, -1}, {ring, 5, 10, 3, -1}, {ring, 10, 5, 3, 2},
		{ring, 5, 24, 0, 4}, {ring, 5, 24, 2, 3}, {ring, 5, 17, 2, 4}, {ring, 5, 17, 0, 0}, {ring, 17, 24, 0, 3}, {ring, 17, 5, 4, 2},
		{ring, 24, 20, 4, 4}, {ring, 24, 20, 3, 2}, {ring, 5, 5, 0, 0}, {ring, 5, 5, 2, 2},
		{full, 13, 50, 0, 1}, {full, 13, 50, 2, 4}, {full, 13, 50, 3, 1}, {full, 50, 13, 1, 0}, {full, 50, 13, 4, 0}, {full, 50, 13, 5, 0}, {full, 13, 50, 5, -1}, {full, 7, 56, 0, -1},
		{chain, 85, 170, 0, 1}, {chain, 85, 170, 2, 3}, {chain, 85, 170, 4, 5}, {chain, 85, 170, 6, 7}, {chain, 170, 85, 7, 6}, {chain, 85, 86, 2, 2}, {chain, 85, 86, 0, 1},
	} {
		if wire := treeReply(x.n, x.first, x.second, x.wire); wire != x.want {
			t.Fatal(x, wire)
		}
	}
}

// wantReply tries all wires of the second tree.
func wantReply(n net, first int, second int, wire int) int {
	for reply := range n.wires {
		if inSet(second, reply) && wantTreeOn(n, nodesAll(n), first&^(1<<wire)|1<<reply) {
			return reply
		}
	}
	return -1
}

// eachReply calls visit with each two trees of each net, and each wire of it.
func eachReply(visit func(n net, first int, second int, wire int)) {
	for _, n := range treeNets() {
		trees := wantTrees(n)
		for _, first := range trees {
			for _, second := range trees {
				for wire := range n.wires {
					visit(n, first, second, wire)
				}
			}
		}
	}
}

func TestP69RepliesAreTheLeastOfAll(t *testing.T) {
	eachReply(func(n net, first int, second int, wire int) {
		before, want := slices.Clone(n.wires), -1
		if inSet(first, wire) {
			want = wantReply(n, first, second, wire)
		}
		if reply := treeReply(n, first, second, wire); reply != want {
			t.Fatal(n, first, second, wire, reply, want)
		}
		wantSameWires(t, n, before)
	})
}

func TestP69ALostWireIsReplacedByTheOtherTree(t *testing.T) {
	eachReply(func(n net, first int, second int, wire int) {
		reply := treeReply(n, first, second, wire)
		if !inSet(first, wire) {
			if reply != -1 {
				t.Fatal("not lost", n, first, second, wire, reply)
			}
			return
		}
		if reply < 0 || !inSet(second, reply) || !treeOk(n, first&^(1<<wire)|1<<reply) {
			t.Fatal(n, first, second, wire, reply)
		}
	})
}

func wantNoReply(t *testing.T, n net, first int, second int, wire int) {
	t.Helper()
	if reply := treeReply(n, first, second, wire); reply != -1 {
		t.Fatal(n, first, second, wire, reply)
	}
}

func TestP69NoReplyToWiresThatAreNone(t *testing.T) {
	for _, n := range treeNets() {
		for _, tree := range wantTrees(n) {
			eachOut(len(n.wires)-1, func(wire int) { wantNoReply(t, n, tree, tree, wire) })
		}
	}
}

func TestP69NoReplyWithSetsThatAreNoTrees(t *testing.T) {
	for _, x := range treeCases() {
		check := func(set int) {
			for wire := range x.wires {
				wantNoReply(t, x.net, set, set, wire)
				for _, tree := range x.trees {
					wantNoReply(t, x.net, set, tree, wire)
					wantNoReply(t, x.net, tree, set, wire)
				}
			}
		}
		eachOut(x.sets()-1, check)
		for set := range x.sets() {
			if !slices.Contains(x.trees, set) {
				check(set)
			}
		}
	}
}

func TestP69NoReplyOnNoNets(t *testing.T) {
	for _, n := range badNets() {
		for _, first := range []int{-1, 0, 1, 3, 7, 15, 255, math.MaxInt} {
			for _, second := range []int{-1, 0, 1, 2, 3, 12, 56, 240, math.MinInt} {
				for _, wire := range []int{-1, 0, 1, 7, 8, math.MinInt, math.MaxInt} {
					wantNoReply(t, n, first, second, wire)
				}
			}
		}
	}
}

func TestP70TreesThroughByHand(t *testing.T) {
	for _, x := range []struct {
		n    net
		want []int // how many trees have each wire
	}{
		{netOf(2, "01"), []int{1}}, {netOf(2, "01", "10", "01"), []int{1, 1, 1}},
		{netOf(3, "02", "20"), []int{0, 0}}, {netOf(4, "01", "23"), []int{0, 0}}, {netOf(3, "02", "12"), []int{1, 1}},
		{netOf(3, "01", "02", "21"), []int{2, 2, 2}}, {netOf(3, "02", "20", "21"), []int{1, 1, 2}},
		{netOf(3, "02", "02", "21", "21", "01"), []int{3, 3, 3, 3, 4}}, {netOf(3, "01", "01", "02", "21"), []int{2, 2, 3, 3}},
		{netOf(4, "02", "03", "23", "21", "31"), []int{5, 5, 4, 5, 5}}, {netOf(4, "02", "02", "21", "21", "23"), []int{2, 2, 2, 2, 4}},
		{netOf(4, "01", "02", "03", "12", "13", "23"), []int{8, 8, 8, 8, 8, 8}},
		{netOf(5, "02", "20", "23", "32", "34", "43", "41", "14"), []int{8, 8, 8, 8, 8, 8, 8, 8}},
	} {
		for wire, want := range x.want {
			if count := treesThrough(x.n, wire); count != want {
				t.Fatal(x, wire, count)
			}
		}
	}
}

func TestP70TreesThroughAreThoseOfLabelledNodes(t *testing.T) {
	for _, n := range treeNets() {
		before, trees := slices.Clone(n.wires), wantTrees(n)
		for wire := range n.wires {
			want := 0
			for _, tree := range trees {
				want += tree >> wire & 1
			}
			if count := treesThrough(n, wire); count != want {
				t.Fatal(n, wire, count, want)
			}
		}
		wantSameWires(t, n, before)
	}
}

func TestP70TreesHaveOneFewerWiresThanNodes(t *testing.T) {
	for _, n := range treeNets() {
		sum := 0
		for wire, between := range n.wires {
			count := treesThrough(n, wire)
			sum += count
			for other, x := range n.wires {
				same := x == between || x.A == between.B && x.B == between.A
				if same && treesThrough(n, other) != count {
					t.Fatal("between the same two", n, wire, other)
				}
			}
		}
		if sum != len(treesOf(n))*(n.nodes-1) {
			t.Fatal(n, sum)
		}
	}
}

func TestP70NoTreesThrough(t *testing.T) {
	for _, n := range treeNets() {
		eachOut(len(n.wires)-1, func(wire int) {
			if count := treesThrough(n, wire); count != -1 {
				t.Fatal(n, wire, count)
			}
		})
	}
	for _, n := range badNets() {
		for _, wire := range append(outOf(8), 0, 1, 2, 7, 8) {
			if count := treesThrough(n, wire); count != -1 {
				t.Fatal(n, wire, count)
			}
		}
	}
}

func TestP71AFurtherWireBringsTheTreesThroughIt(t *testing.T) {
	for _, n := range treeNets() {
		if len(n.wires) == 8 {
			continue
		}
		more := withWires(n, 1)
		if len(treesOf(more)) != len(treesOf(n))+treesThrough(more, len(n.wires)) {
			t.Fatal(n, treesOf(n), treesOf(more))
		}
	}
}

func TestP71AFurtherWireByHand(t *testing.T) {
	for _, x := range []struct {
		n               net
		before, through int
	}{
		{netOf(2), 0, 1}, {netOf(3), 0, 0}, {netOf(2, "01"), 1, 1}, {netOf(3, "02"), 0, 1}, {netOf(3, "02", "21"), 1, 2}, {netOf(4, "01", "23"), 0, 0},
		{netOf(4, "02", "13"), 0, 1}, {netOf(3, "02", "02", "21", "21"), 4, 4}, {netOf(4, "02", "03", "23", "21", "31"), 8, 8}, {netOf(5, "02", "23", "34", "41"), 1, 4},
	} {
		more := withWires(x.n, 1)
		if len(treesOf(x.n)) != x.before || len(treesOf(more)) != x.before+x.through || treesThrough(more, len(x.n.wires)) != x.through {
			t.Fatal(x, treesOf(x.n), treesOf(more))
		}
	}
}
