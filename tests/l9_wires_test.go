package tests

import (
	"math"
	"math/bits"
	"slices"
	"testing"

	"loop.example/sidescross/impl"
)

type net struct {
	nodes int
	wires []impl.Wire
}

func (n net) sets() int {
	return 1 << len(n.wires)
}

func linksEnds(n net, set int) bool {
	return impl.LinksEnds(n.nodes, n.wires, set)
}

func wiresWon(n net, owners []int) int {
	return impl.WiresWon(n.nodes, n.wires, owners)
}

func wiresWinner(n net, owners []int, turn int) int {
	return impl.WiresWinner(n.nodes, n.wires, owners, turn)
}

func winningWires(n net, owners []int, player int) []int {
	return impl.WinningWires(n.nodes, n.wires, owners, player)
}

func leastLinks(n net) []int {
	return impl.LeastLinks(n.nodes, n.wires)
}

func leastCuts(n net) []int {
	return impl.LeastCuts(n.nodes, n.wires)
}

func wireGap(n net, owners []int) int {
	return impl.WireGap(n.nodes, n.wires, owners)
}

// netOf returns a net with a wire for each two digits, which are its nodes.
func netOf(nodes int, digits ...string) net {
	n := net{nodes: nodes}
	for _, both := range digits {
		n.wires = append(n.wires, impl.Wire{A: int(both[0] - '0'), B: int(both[1] - '0')})
	}
	return n
}

// netCase is a net with what was found by hand: its least links, its least cuts, and who wins the free net if First is to move, and if Second is.
type netCase struct {
	net
	links, cuts   []int
	first, second int
}

func netCases() []netCase {
	return []netCase{
		{netOf(2), nil, []int{0}, 2, 2},
		{netOf(3), nil, []int{0}, 2, 2},
		{netOf(5), nil, []int{0}, 2, 2},
		{netOf(2, "01"), []int{1}, []int{1}, 1, 2},
		{netOf(2, "10"), []int{1}, []int{1}, 1, 2},
		{netOf(2, "01", "10"), []int{1, 2}, []int{3}, 1, 1},
		{netOf(2, "01", "01", "01"), []int{1, 2, 4}, []int{7}, 1, 1},
		{netOf(2, "01", "10", "01", "01", "10", "01", "10", "10"), []int{1, 2, 4, 8, 16, 32, 64, 128}, []int{255}, 1, 1},
		{netOf(3, "01", "02"), []int{1}, []int{1}, 1, 2},
		{netOf(3, "02", "12"), []int{3}, []int{1, 2}, 2, 2},
		{netOf(3, "20", "02"), nil, []int{0}, 2, 2},
		{netOf(3, "02", "20", "21"), []int{5, 6}, []int{3, 4}, 1, 2},
		{netOf(3, "01", "02", "21"), []int{1, 6}, []int{3, 5}, 1, 2},
		{netOf(3, "02", "21", "01"), []int{3, 4}, []int{5, 6}, 1, 2},
		{netOf(3, "02", "02", "21", "21"), []int{5, 6, 9, 10}, []int{3, 12}, 1, 1},
		{netOf(4, "01", "23"), []int{1}, []int{1}, 1, 2},
		{netOf(4, "02", "31", "23"), []int{7}, []int{1, 2, 4}, 2, 2},
		{netOf(4, "02", "03", "23", "21", "31"), []int{9, 14, 18, 21}, []int{3, 14, 21, 24}, 1, 2},
		{netOf(4, "01", "02", "03", "12", "13", "23"), []int{1, 10, 20, 44, 50}, []int{7, 25, 45, 51}, 1, 1},
		{netOf(5, "02", "23", "34", "41"), []int{15}, []int{1, 2, 4, 8}, 2, 2},
		{netOf(5, "41", "23", "43", "20"), []int{15}, []int{1, 2, 4, 8}, 2, 2},
		{netOf(5, "02", "20", "23", "32", "34", "43", "41", "14"), []int{85, 86, 89, 90, 101, 102, 105, 106, 149, 150, 153, 154, 165, 166, 169, 170}, []int{3, 12, 48, 192}, 1, 1},
		{netOf(5, "02", "02", "02", "02", "13", "13", "34", "34"), nil, []int{0}, 2, 2},
		{netOf(5, "23", "34", "42", "23", "34", "42", "23", "34"), nil, []int{0}, 2, 2},
	}
}

// pairsOf returns all pairs of two different nodes.
func pairsOf(nodes int) []impl.Wire {
	var pairs []impl.Wire
	for b := range nodes {
		for a := range b {
			pairs = append(pairs, impl.Wire{A: a, B: b})
		}
	}
	return pairs
}

// netsOf returns all nets of so many nodes and wires, each list of wires being one: every second wire is told from its greater node.
func netsOf(nodes int, wires int) []net {
	nets := []net{{nodes: nodes}}
	for at := range wires {
		var longer []net
		for _, n := range nets {
			for _, wire := range pairsOf(nodes) {
				if at%2 == 1 {
					wire.A, wire.B = wire.B, wire.A
				}
				longer = append(longer, net{nodes, append(slices.Clone(n.wires), wire)})
			}
		}
		nets = longer
	}
	return nets
}

// drawnNet returns a net of so many nodes and wires that a number draws, always the same one.
func drawnNet(nodes int, wires int, draw uint32) net {
	n, pairs := net{nodes: nodes}, pairsOf(nodes)
	for range wires {
		draw = draw*1664525 + 1013904223
		n.wires = append(n.wires, pairs[int(draw>>16)%len(pairs)])
	}
	return n
}

// allNets returns all nets of few wires, those of netCases, and some drawn ones of many wires.
func allNets() []net {
	var nets []net
	for at, most := range []int{7, 4, 3, 2} {
		for wires := range most + 1 {
			nets = append(nets, netsOf(2+at, wires)...)
		}
	}
	for _, x := range netCases() {
		nets = append(nets, x.net)
	}
	for draw := range uint32(24) {
		nets = append(nets, drawnNet(4+int(draw%2), 4+int(draw/2%5), draw))
	}
	return append(nets, drawnNet(3, 8, 1), drawnNet(4, 8, 2), drawnNet(5, 8, 3), drawnNet(5, 8, 4))
}

// eachOwners calls visit with all owners of so many wires, each in memory of its own.
func eachOwners(wires int, visit func(owners []int)) {
	count := 1
	for range wires {
		count *= 3
	}
	for number := range count {
		owners := make([]int, wires)
		for wire := range owners {
			owners[wire] = number % 3
			number /= 3
		}
		visit(owners)
	}
}

// eachOwned calls visit with each net and all its owners.
func eachOwned(visit func(n net, owners []int)) {
	for _, n := range allNets() {
		eachOwners(len(n.wires), func(owners []int) { visit(n, owners) })
	}
}

func freeOwners(n net) []int {
	return make([]int, len(n.wires))
}

// labelled returns a label for each node, the same one just for nodes that wires of a set link, and whether each of these wires is needed for that.
func labelled(n net, set int) ([]int, bool) {
	labels, allNeeded := make([]int, n.nodes), true
	for node := range labels {
		labels[node] = node
	}
	for at, wire := range n.wires {
		if !inSet(set, at) {
			continue
		}
		old, now := labels[wire.A], labels[wire.B]
		allNeeded = allNeeded && old != now
		for node, label := range labels {
			if label == old {
				labels[node] = now
			}
		}
	}
	return labels, allNeeded
}

func wantLinked(n net, set int) bool {
	labels, _ := labelled(n, set)
	return labels[0] == labels[1]
}

// ownedBy returns the set of the wires that a player owns.
func ownedBy(owners []int, player int) int {
	set := 0
	for wire, owner := range owners {
		if owner == player {
			set |= 1 << wire
		}
	}
	return set
}

func wantNetWon(n net, owners []int) int {
	if wantLinked(n, ownedBy(owners, impl.First)) {
		return impl.First
	}
	if !wantLinked(n, n.sets()-1-ownedBy(owners, impl.Second)) {
		return impl.Second
	}
	return impl.Free
}

// wantNetWinners solves a net from all owned wires back, by the rules alone; it returns who wins by the player to move and by numberOf.
func wantNetWinners(n net) [impl.Second + 1][]int {
	var all [][]int
	eachOwners(len(n.wires), func(owners []int) { all = append(all, owners) })
	var winners [impl.Second + 1][]int
	for _, player := range players() {
		winners[player] = make([]int, len(all))
	}
	for number, owners := range slices.Backward(all) {
		for _, turn := range players() {
			winners[turn][number] = wantNetWinner(n, owners, turn, winners)
		}
	}
	return winners
}

func wantNetWinner(n net, owners []int, turn int, winners [impl.Second + 1][]int) int {
	if player := wantNetWon(n, owners); player != impl.Free {
		return player
	}
	if len(wantWinning(owners, turn, winners)) > 0 {
		return turn
	}
	return otherOf(turn)
}

// eachNetSolved calls visit with each net, all its owners, each player to move, and the solved net.
func eachNetSolved(visit func(n net, owners []int, turn int, winners [impl.Second + 1][]int)) {
	for _, n := range allNets() {
		winners := wantNetWinners(n)
		eachOwners(len(n.wires), func(owners []int) {
			for _, turn := range players() {
				visit(n, owners, turn, winners)
			}
		})
	}
}

// wantSameWires checks that a call has not written to the wires of a net.
func wantSameWires(t *testing.T, n net, before []impl.Wire) {
	t.Helper()
	if !slices.Equal(n.wires, before) {
		t.Fatalf("the wires %v are %v now", before, n.wires)
	}
}

func badNodes() []int {
	return []int{-2, -1, 0, 1, 6, 7, 64, math.MinInt, math.MaxInt, 1<<32 + 2, 1<<32 + 5}
}

// badNets have too few or too many nodes or wires, or a wire that is between no two of their nodes.
func badNets() []net {
	var list []net
	for _, nodes := range badNodes() {
		list = append(list, net{nodes: nodes}, netOf(nodes, "01"), netOf(nodes, "01", "02", "21"))
	}
	for nodes := 2; nodes <= 5; nodes++ {
		for _, wires := range []int{9, 10, 16, 32, 63, 64, 65} {
			list = append(list, net{nodes, slices.Repeat([]impl.Wire{{A: 0, B: 1}}, wires)})
		}
		for _, node := range []int{-1, -2, nodes, nodes + 1, 5, 6, 63, 64, math.MinInt, math.MaxInt, 1 << 32, 1<<32 + 1} {
			for _, wire := range []impl.Wire{{A: node, B: 0}, {A: 1, B: node}, {A: node, B: node}} {
				list = append(list, net{nodes, []impl.Wire{wire}}, net{nodes, []impl.Wire{wire, {A: 0, B: 1}}}, net{nodes, append(slices.Repeat([]impl.Wire{{A: 0, B: 1}}, 7), wire)})
			}
		}
		for node := range nodes {
			list = append(list, net{nodes, []impl.Wire{{A: 0, B: 1}, {A: node, B: node}}})
		}
	}
	return list
}

// fewNets are those with which invalid arguments of other kinds are tried.
func fewNets() []net {
	var nets []net
	for _, x := range netCases() {
		nets = append(nets, x.net)
	}
	return nets
}

// eachBadOwned calls visit with nets that are none, and with owners that are none.
func eachBadOwned(visit func(n net, owners []int)) {
	for _, n := range badNets() {
		for what := impl.Free; what <= impl.Second; what++ {
			visit(n, slices.Repeat([]int{what}, len(n.wires)))
		}
	}
	for _, n := range fewNets() {
		for what := impl.Free; what <= impl.Second; what++ {
			visit(n, slices.Repeat([]int{what}, len(n.wires)+1))
			visit(n, slices.Repeat([]int{what}, 2*len(n.wires)+1))
			if len(n.wires) > 0 {
				visit(n, nil)
				visit(n, slices.Repeat([]int{what}, len(n.wires)-1))
			}
		}
		for wire := range n.wires {
			for _, owner := range []int{-1, 3, 4, math.MinInt, math.MaxInt, 256, 1 << 32, 1<<32 + 1} {
				visit(n, laid(freeOwners(n), wire, owner))
			}
		}
	}
}

// eachBadTurn calls visit with nets and owners that are none, and with players that are none.
func eachBadTurn(visit func(n net, owners []int, player int)) {
	eachBadOwned(func(n net, owners []int) {
		for _, player := range append(players(), badPlayers()...) {
			visit(n, owners, player)
		}
	})
	for _, n := range fewNets() {
		for _, player := range badPlayers() {
			for what := impl.Free; what <= impl.Second; what++ {
				visit(n, slices.Repeat([]int{what}, len(n.wires)), player)
			}
		}
	}
}

func TestP54Bounds(t *testing.T) {
	if impl.MaxNodes != 5 || impl.MaxWires != 8 {
		t.Fatal(impl.MaxNodes, impl.MaxWires)
	}
}

func TestP54NoWiresAreWires(t *testing.T) {
	for nodes := -3; nodes <= 9; nodes++ {
		want := nodes >= 2 && nodes <= 5
		if impl.WiresOk(nodes, nil) != want || impl.WiresOk(nodes, []impl.Wire{}) != want {
			t.Fatal(nodes)
		}
	}
}

func TestP54OneWire(t *testing.T) {
	for nodes := -1; nodes <= 7; nodes++ {
		for a := -2; a <= 7; a++ {
			for b := -2; b <= 7; b++ {
				want := nodes >= 2 && nodes <= 5 && a != b && a >= 0 && a < nodes && b >= 0 && b < nodes
				if impl.WiresOk(nodes, []impl.Wire{{A: a, B: b}}) != want {
					t.Fatal(nodes, a, b)
				}
			}
		}
	}
}

func TestP54AsManyWiresAsThereMayBe(t *testing.T) {
	for nodes := 2; nodes <= 5; nodes++ {
		for wires := range 20 {
			if impl.WiresOk(nodes, drawnNet(nodes, wires, uint32(nodes)).wires) != (wires <= 8) {
				t.Fatal(nodes, wires)
			}
		}
	}
}

func TestP54WithNodesExchanged(t *testing.T) {
	for _, n := range append(allNets(), badNets()...) {
		turned := slices.Clone(n.wires)
		for at, wire := range turned {
			turned[at] = impl.Wire{A: wire.B, B: wire.A}
		}
		before := slices.Clone(n.wires)
		if impl.WiresOk(n.nodes, turned) != impl.WiresOk(n.nodes, n.wires) {
			t.Fatal(n)
		}
		wantSameWires(t, n, before)
	}
}

func TestP54Nets(t *testing.T) {
	for _, n := range allNets() {
		if !impl.WiresOk(n.nodes, n.wires) {
			t.Fatal(n)
		}
	}
	for _, n := range badNets() {
		if impl.WiresOk(n.nodes, n.wires) {
			t.Fatal(n)
		}
	}
}

func TestP55LinksByHand(t *testing.T) {
	for _, x := range netCases() {
		for set := range x.sets() {
			if linksEnds(x.net, set) != isWith(x.links, set) {
				t.Fatal(x, set)
			}
		}
	}
}

func TestP55LinksAreThoseOfJoinedNodes(t *testing.T) {
	for _, n := range allNets() {
		before := slices.Clone(n.wires)
		for set := range n.sets() {
			if linksEnds(n, set) != wantLinked(n, set) {
				t.Fatal(n, set)
			}
		}
		wantSameWires(t, n, before)
	}
}

func TestP55MoreWiresLinkNoWorse(t *testing.T) {
	for _, n := range allNets() {
		if linksEnds(n, 0) {
			t.Fatal("no wires", n)
		}
		for set := range n.sets() {
			for more := range n.sets() {
				if linksEnds(n, set) && !linksEnds(n, set|more) {
					t.Fatal(n, set, more)
				}
			}
		}
	}
}

func TestP55NoSetsOfWires(t *testing.T) {
	for _, n := range allNets() {
		all := n.sets() - 1
		for _, set := range []int{-1, -2, -all, -all - 1, all + 1, all + 2, 2*all + 1, 2*all + 2, 1 << 8, 1<<9 - 1, 1 << 32, 1<<32 + all, 1 << 62, math.MinInt, math.MinInt + 1, math.MinInt + all, math.MaxInt} {
			if (set < 0 || set > all) && linksEnds(n, set) {
				t.Fatal(n, set)
			}
		}
	}
	for _, n := range badNets() {
		for _, set := range []int{0, 1, 2, 3, 7, 127, 128, 255, 511, -1, math.MaxInt} {
			if linksEnds(n, set) {
				t.Fatal(n, set)
			}
		}
	}
}

func TestP56FreeWiresAreOwnedByNobody(t *testing.T) {
	for _, n := range allNets() {
		if !impl.OwnersOk(n.nodes, n.wires, freeOwners(n)) {
			t.Fatal(n)
		}
	}
	if !impl.OwnersOk(2, nil, nil) || !impl.OwnersOk(5, []impl.Wire{}, []int{}) || impl.OwnersOk(1, nil, nil) || impl.OwnersOk(6, nil, nil) {
		t.Fatal("no wires")
	}
}

func TestP56WithPlayersExchanged(t *testing.T) {
	check := func(n net, owners []int, want bool) {
		exchanged := slices.Clone(owners)
		for wire, owner := range exchanged {
			if owner == impl.First || owner == impl.Second {
				exchanged[wire] = otherOf(owner)
			}
		}
		before := slices.Clone(owners)
		if impl.OwnersOk(n.nodes, n.wires, owners) != want || impl.OwnersOk(n.nodes, n.wires, exchanged) != want {
			t.Fatal(n, owners, exchanged, want)
		}
		wantList(t, "written to", owners, before...)
	}
	eachOwned(func(n net, owners []int) { check(n, owners, true) })
	eachBadOwned(func(n net, owners []int) { check(n, owners, false) })
}

func TestP57WonNetsByHand(t *testing.T) {
	for _, x := range netCases() {
		eachOwners(len(x.wires), func(owners []int) {
			want := impl.Free
			cut := ownedBy(owners, impl.Second)
			if isWith(x.links, ownedBy(owners, impl.First)) {
				want = impl.First
			} else if isWith(x.cuts, cut) {
				want = impl.Second
			}
			if winner := wiresWon(x.net, owners); winner != want {
				t.Fatal(x, owners, winner)
			}
		})
	}
}

func TestP57WonNetsAreThoseOfJoinedNodes(t *testing.T) {
	eachOwned(func(n net, owners []int) {
		before, wires := slices.Clone(owners), slices.Clone(n.wires)
		if winner := wiresWon(n, owners); winner != wantNetWon(n, before) {
			t.Fatal(n, owners, winner)
		}
		wantList(t, "written to", owners, before...)
		wantSameWires(t, n, wires)
	})
}

// givenAll returns owners with all free wires given to a player.
func givenAll(owners []int, player int) []int {
	given := slices.Clone(owners)
	for wire, owner := range given {
		if owner == impl.Free {
			given[wire] = player
		}
	}
	return given
}

func TestP57IfAllIsTakenOneHasWon(t *testing.T) {
	eachOwned(func(n net, owners []int) {
		winner := wiresWon(n, owners)
		for _, player := range players() {
			end := wiresWon(n, givenAll(owners, player))
			if end != impl.First && end != impl.Second || winner != impl.Free && end != winner {
				t.Fatal(n, owners, player, winner, end)
			}
		}
	})
}

func TestP57NobodyHasWon(t *testing.T) {
	eachBadOwned(func(n net, owners []int) {
		if winner := wiresWon(n, owners); winner != impl.Free {
			t.Fatal(n, owners, winner)
		}
	})
}

func TestP58WinnersOfFreeNetsByHand(t *testing.T) {
	for _, x := range netCases() {
		first, second := wiresWinner(x.net, freeOwners(x.net), impl.First), wiresWinner(x.net, freeOwners(x.net), impl.Second)
		if first != x.first || second != x.second {
			t.Fatal(x, first, second)
		}
	}
}

func TestP58WinnersByHand(t *testing.T) {
	bridge, ring := netOf(4, "02", "03", "23", "21", "31"), netOf(3, "02", "02", "21", "21")
	for _, x := range []struct {
		n             net
		owners        []int
		first, second int // who wins if First is to move, and if Second is
	}{
		{netOf(2, "01"), []int{1}, 1, 1}, {netOf(2, "01"), []int{2}, 2, 2},
		{netOf(2, "01", "01"), []int{2, 0}, 1, 2}, {netOf(2, "01", "01"), []int{0, 1}, 1, 1}, {netOf(2, "01", "01"), []int{2, 2}, 2, 2},
		{netOf(3, "02", "21"), []int{1, 0}, 1, 2}, {netOf(3, "02", "21"), []int{1, 1}, 1, 1}, {netOf(3, "02", "21"), []int{1, 2}, 2, 2}, {netOf(3, "02", "21"), []int{0, 2}, 2, 2},
		{ring, []int{2, 0, 0, 0}, 1, 2}, {ring, []int{2, 0, 2, 0}, 2, 2}, {ring, []int{2, 1, 0, 0}, 1, 1}, {ring, []int{1, 0, 0, 2}, 1, 2}, {ring, []int{2, 1, 1, 2}, 1, 1}, {ring, []int{2, 2, 1, 1}, 2, 2},
		{bridge, []int{0, 0, 1, 0, 0}, 1, 1}, {bridge, []int{0, 0, 2, 0, 0}, 2, 2}, {bridge, []int{1, 0, 2, 0, 0}, 1, 2}, {bridge, []int{1, 0, 0, 0, 0}, 1, 1}, {bridge, []int{2, 0, 0, 0, 0}, 2, 2}, {bridge, []int{1, 2, 2, 0, 1}, 1, 2}, {bridge, []int{2, 1, 2, 1, 2}, 2, 2},
	} {
		if first, second := wiresWinner(x.n, x.owners, impl.First), wiresWinner(x.n, x.owners, impl.Second); first != x.first || second != x.second {
			t.Fatal(x, first, second)
		}
	}
}

func TestP58WinnersAreThoseOfAllGames(t *testing.T) {
	eachNetSolved(func(n net, owners []int, turn int, winners [impl.Second + 1][]int) {
		before, wires := slices.Clone(owners), slices.Clone(n.wires)
		if winner := wiresWinner(n, owners, turn); winner != winners[turn][numberOf(before)] {
			t.Fatal(n, owners, turn, winner)
		}
		wantList(t, "written to", owners, before...)
		wantSameWires(t, n, wires)
	})
}

func TestP58AWireMoreNeverHarms(t *testing.T) {
	eachOwned(func(n net, owners []int) {
		for _, turn := range players() {
			winner := wiresWinner(n, owners, turn)
			if winner != impl.First && winner != impl.Second {
				t.Fatal(n, owners, turn, winner)
			}
			if free := freeCells(owners); len(free) > 0 && wiresWinner(n, laid(owners, free[0], winner), turn) != winner {
				t.Fatal("a wire more", n, owners, turn, winner)
			}
			if wiresWinner(n, owners, winner) != winner {
				t.Fatal("to move", n, owners, turn, winner)
			}
		}
	})
}

func TestP58NobodyWinsTheNet(t *testing.T) {
	eachBadTurn(func(n net, owners []int, player int) {
		if winner := wiresWinner(n, owners, player); winner != impl.Free {
			t.Fatal(n, owners, player, winner)
		}
	})
}

func TestP59WinningWiresByHand(t *testing.T) {
	for _, x := range []struct {
		n             net
		owners        []int
		first, second []int
	}{
		{netOf(2), nil, nil, nil}, {netOf(5), nil, nil, nil},
		{netOf(2, "01"), []int{0}, []int{0}, []int{0}}, {netOf(2, "01"), []int{1}, nil, nil}, {netOf(2, "01"), []int{2}, nil, nil},
		{netOf(2, "01", "10"), []int{0, 0}, []int{0, 1}, nil}, {netOf(2, "01", "10"), []int{2, 0}, []int{1}, []int{1}},
		{netOf(3, "02", "21"), []int{0, 0}, nil, []int{0, 1}},
		{netOf(3, "02", "20"), []int{0, 0}, nil, nil},
		{netOf(3, "02", "20", "21"), []int{0, 0, 0}, []int{2}, []int{0, 1, 2}},
		{netOf(3, "02", "02", "21", "21"), []int{0, 0, 0, 0}, []int{0, 1, 2, 3}, nil},
		{netOf(3, "02", "02", "21", "21"), []int{2, 0, 0, 0}, []int{1}, []int{1, 2, 3}},
		{netOf(3, "02", "02", "21", "21"), []int{1, 0, 1, 0}, nil, nil},
		{netOf(3, "02", "02", "21", "21"), []int{0, 0, 2, 2}, nil, nil},
		{netOf(3, "02", "02", "21", "21"), []int{1, 2, 2, 1}, nil, nil},
		{netOf(4, "02", "03", "23", "21", "31"), []int{0, 0, 0, 0, 0}, []int{0, 1, 2, 3, 4}, []int{0, 1, 2, 3, 4}},
		{netOf(4, "01", "23"), []int{0, 0}, []int{0}, []int{0}},
	} {
		wantList(t, "First", winningWires(x.n, x.owners, impl.First), x.first...)
		wantList(t, "Second", winningWires(x.n, x.owners, impl.Second), x.second...)
	}
}

func TestP59WinningWiresAreThoseOfAllGames(t *testing.T) {
	eachNetSolved(func(n net, owners []int, player int, winners [impl.Second + 1][]int) {
		before, wires := slices.Clone(owners), slices.Clone(n.wires)
		list := winningWires(n, owners, player)
		if wantNetWon(n, before) != impl.Free {
			wantList(t, "won", list)
		} else {
			wantList(t, "winning wires", list, wantWinning(before, player, winners)...)
		}
		wantList(t, "written to", owners, before...)
		wantSameWires(t, n, wires)
	})
}

func TestP59ThereAreWinningWiresJustForWhoWins(t *testing.T) {
	eachOwned(func(n net, owners []int) {
		for _, player := range players() {
			list := winningWires(n, owners, player)
			wantAscending(t, list)
			wins := wiresWon(n, owners) == impl.Free && wiresWinner(n, owners, player) == player
			if (len(list) > 0) != wins {
				t.Fatal(n, owners, player, list)
			}
			for _, wire := range list {
				if owners[wire] != impl.Free || wiresWinner(n, laid(owners, wire, player), otherOf(player)) != player {
					t.Fatal(n, owners, player, wire)
				}
			}
		}
	})
}

func TestP59NoWinningWires(t *testing.T) {
	eachBadTurn(func(n net, owners []int, player int) {
		wantList(t, "no play", winningWires(n, owners, player))
	})
}

func TestP59WinningWiresAreNew(t *testing.T) {
	for _, n := range fewNets() {
		for _, player := range players() {
			wantNewResult(t, freeOwners(n), func(owners []int) []int { return winningWires(n, owners, player) })
		}
	}
}

// wantLeastSets returns all sets that suffice, and of which no other part does.
func wantLeastSets(n net, suffices func(set int) bool) []int {
	var least []int
	for set := range n.sets() {
		if suffices(set) && !slices.ContainsFunc(least, func(part int) bool { return part&^set == 0 }) {
			least = append(least, set)
		}
	}
	return least
}

// wantNewSets checks that lists of sets are made anew by each call, and that no call writes to the wires.
func wantNewSets(t *testing.T, call func(n net) []int) {
	t.Helper()
	for _, n := range allNets() {
		before := slices.Clone(n.wires)
		first, second := call(n), call(n)
		wanted := slices.Clone(first)
		overwrite(first)
		wantList(t, "two results share memory", second, wanted...)
		wantSameWires(t, n, before)
	}
}

// wantNoneWithinAnother checks that sets ascend, and that none has all wires of another one.
func wantNoneWithinAnother(t *testing.T, sets []int) {
	t.Helper()
	wantAscending(t, sets)
	for at, set := range sets {
		for other, part := range sets {
			if at != other && part&^set == 0 {
				t.Fatal(sets, set, part)
			}
		}
	}
}

func TestP60LeastLinksByHand(t *testing.T) {
	for _, x := range netCases() {
		wantList(t, "least links", leastLinks(x.net), x.links...)
	}
}

func TestP60LeastLinksAreThoseOfJoinedNodes(t *testing.T) {
	for _, n := range allNets() {
		wantList(t, "least links", leastLinks(n), wantLeastSets(n, func(set int) bool { return wantLinked(n, set) })...)
	}
}

func TestP60EachLinkMeetsEachCut(t *testing.T) {
	for _, n := range allNets() {
		links, cuts := leastLinks(n), leastCuts(n)
		wantNoneWithinAnother(t, links)
		for _, link := range links {
			if !linksEnds(n, link) {
				t.Fatal(n, link)
			}
			for _, cut := range cuts {
				if link&cut == 0 {
					t.Fatal(n, link, cut)
				}
			}
		}
	}
}

func TestP60NoLeastLinks(t *testing.T) {
	for _, n := range badNets() {
		wantList(t, "no net", leastLinks(n))
	}
}

func TestP60LeastLinksAreNew(t *testing.T) {
	wantNewSets(t, leastLinks)
}

func TestP61LeastCutsByHand(t *testing.T) {
	for _, x := range netCases() {
		wantList(t, "least cuts", leastCuts(x.net), x.cuts...)
	}
}

func TestP61LeastCutsAreThoseOfJoinedNodes(t *testing.T) {
	for _, n := range allNets() {
		wantList(t, "least cuts", leastCuts(n), wantLeastSets(n, func(set int) bool { return !wantLinked(n, n.sets()-1-set) })...)
	}
}

func TestP61WithoutACutNothingLinks(t *testing.T) {
	for _, n := range allNets() {
		links, cuts := leastLinks(n), leastCuts(n)
		wantNoneWithinAnother(t, cuts)
		for _, cut := range cuts {
			if linksEnds(n, n.sets()-1-cut) {
				t.Fatal(n, cut)
			}
		}
		for set := range n.sets() {
			parted := slices.ContainsFunc(cuts, func(cut int) bool { return set&cut == 0 })
			if isWith(links, set) == parted {
				t.Fatal(n, set, links, cuts)
			}
		}
	}
}

func TestP61NoLeastCuts(t *testing.T) {
	for _, n := range badNets() {
		wantList(t, "no net", leastCuts(n))
	}
}

func TestP61LeastCutsAreNew(t *testing.T) {
	wantNewSets(t, leastCuts)
}

// wantWireGap tries all sets of free wires.
func wantWireGap(n net, owners []int) int {
	own, free, gap := ownedBy(owners, impl.First), ownedBy(owners, impl.Free), -1
	for set := range n.sets() {
		if size := bits.OnesCount(uint(set)); set&^free == 0 && (gap < 0 || size < gap) && wantLinked(n, own|set) {
			gap = size
		}
	}
	return gap
}

func TestP62GapsOfWiresByHand(t *testing.T) {
	bridge := netOf(4, "02", "03", "23", "21", "31")
	for _, x := range []struct {
		n      net
		owners []int
		want   int
	}{
		{netOf(2), nil, -1}, {netOf(5), nil, -1},
		{netOf(2, "01"), []int{0}, 1}, {netOf(2, "01"), []int{1}, 0}, {netOf(2, "01"), []int{2}, -1},
		{netOf(2, "01", "01"), []int{2, 0}, 1}, {netOf(2, "01", "01"), []int{2, 1}, 0}, {netOf(2, "01", "01"), []int{2, 2}, -1},
		{netOf(3, "02", "20"), []int{0, 0}, -1}, {netOf(3, "02", "20"), []int{1, 1}, -1},
		{netOf(3, "02", "21", "01"), []int{0, 0, 0}, 1}, {netOf(3, "02", "21", "01"), []int{0, 0, 2}, 2}, {netOf(3, "02", "21", "01"), []int{2, 0, 0}, 1},
		{netOf(5, "02", "23", "34", "41"), []int{0, 0, 0, 0}, 4}, {netOf(5, "02", "23", "34", "41"), []int{0, 1, 0, 1}, 2}, {netOf(5, "02", "23", "34", "41"), []int{1, 1, 2, 1}, -1}, {netOf(5, "02", "23", "34", "41"), []int{1, 1, 1, 1}, 0},
		{bridge, []int{0, 0, 0, 0, 0}, 2}, {bridge, []int{1, 0, 0, 0, 0}, 1}, {bridge, []int{0, 0, 1, 0, 0}, 2}, {bridge, []int{2, 0, 0, 0, 2}, 3}, {bridge, []int{2, 0, 1, 0, 2}, 2}, {bridge, []int{2, 1, 1, 0, 2}, 1}, {bridge, []int{2, 1, 1, 1, 2}, 0}, {bridge, []int{2, 0, 2, 0, 2}, -1}, {bridge, []int{2, 2, 1, 1, 1}, -1},
		{netOf(5, "02", "20", "23", "32", "34", "43", "41", "14"), make([]int, 8), 4},
	} {
		if gap := wireGap(x.n, x.owners); gap != x.want {
			t.Fatal(x, gap)
		}
	}
}

func TestP62GapsOfWiresAreThoseOfAllSets(t *testing.T) {
	eachOwned(func(n net, owners []int) {
		before, wires := slices.Clone(owners), slices.Clone(n.wires)
		if gap := wireGap(n, owners); gap != wantWireGap(n, before) {
			t.Fatal(n, owners, gap)
		}
		wantList(t, "written to", owners, before...)
		wantSameWires(t, n, wires)
	})
}

func TestP62GapsOfWiresAreClosedJustIfCut(t *testing.T) {
	eachOwned(func(n net, owners []int) {
		gap, winner := wireGap(n, owners), wiresWon(n, owners)
		if (gap == 0) != (winner == impl.First) || (gap == -1) != (winner == impl.Second) || gap < -1 {
			t.Fatal(n, owners, gap, winner)
		}
		if free := freeCells(owners); len(free) > 0 {
			next := wireGap(n, laid(owners, free[0], impl.First))
			if next != gap && (gap <= 0 || next != gap-1) {
				t.Fatal(n, owners, gap, next)
			}
		}
	})
}

func TestP62NoGapsOfWires(t *testing.T) {
	eachBadOwned(func(n net, owners []int) {
		if gap := wireGap(n, owners); gap != -1 {
			t.Fatal(n, owners, gap)
		}
	})
}

// withWires returns a net with so many wires between the ends more.
func withWires(n net, more int) net {
	return net{n.nodes, append(slices.Clone(n.wires), slices.Repeat([]impl.Wire{{A: 0, B: 1}}, more)...)}
}

func TestP63AFurtherWireNeverHarmsWhoJoins(t *testing.T) {
	for _, n := range allNets() {
		for _, turn := range players() {
			if len(n.wires) < 8 && wiresWinner(n, freeOwners(n), turn) == impl.First {
				if more := withWires(n, 1); wiresWinner(more, freeOwners(more), turn) != impl.First {
					t.Fatal(more, turn)
				}
			}
			if len(n.wires) < 7 {
				if more := withWires(n, 2); wiresWinner(more, freeOwners(more), turn) != impl.First {
					t.Fatal(more, turn)
				}
			}
		}
	}
}
