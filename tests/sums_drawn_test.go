package tests

import (
	"slices"
	"testing"

	"loop.example/hawser/impl"
)

// P73, P74, P78, P79, P80, P84, P85, P93: after each of PlayMax drawn events, and at the end.
func TestSumsDrawnEvents(t *testing.T) {
	most := 0
	for seed := 4000; seed < 4200; seed++ {
		drawRun(seed, func(before, after impl.World, e impl.Event) {
			checkSums(t, after)
			checkCoins(t, after)
			most = max(most, allAway(after))
		})
		if t.Failed() {
			t.Fatal("seed", seed)
		}
	}
	if most < 20 {
		t.Error("too little in transit", most)
	}
}

// P81, P82, P83, P86: what is planned after each drawn event.
func TestSumPlanDrawnEvents(t *testing.T) {
	planned := map[int]int{}
	for seed := 4200; seed < 4260; seed++ {
		drawRun(seed, func(before, after impl.World, e impl.Event) {
			for id := 1; id <= 2; id++ {
				if len(impl.SumPlan(after, id)) == 0 && len(wantPlan(after, id)) == 0 {
					continue // such cases are many: they are in the tests of made runs
				}
				plan := checkPlan(t, after, id)
				checkPlannedKeep(t, after, plan)
				for _, e := range plan {
					planned[e.Kind]++
				}
			}
		})
		if t.Failed() {
			t.Fatal("seed", seed)
		}
	}
	if planned[impl.EvGet] < 200 || planned[impl.EvTell] < 100 || planned[impl.EvLate] < 50 {
		t.Error("too few cases", planned)
	}
}

// P91: quiet rounds after each drawn event.
func TestSumsQuietAfterDrawnEvents(t *testing.T) {
	for seed := 4300; seed < 4340; seed++ {
		drawRun(seed, func(before, after impl.World, e impl.Event) { checkQuiet(t, after, 3) })
		if t.Failed() {
			t.Fatal("seed", seed)
		}
	}
}

// P92: what the other chain can do ahead of each drawn event and behind it.
func TestSumsOtherChainAfterDrawnEvents(t *testing.T) {
	for seed := 4400; seed < 4440; seed++ {
		drawRun(seed, func(before, after impl.World, e impl.Event) { checkOther(t, before, after, e) })
		if t.Failed() {
			t.Fatal("seed", seed)
		}
	}
}

// P76: without EvKnow. StepInit needs no height, so that an end may have begun; nothing else but heights and transfers is left.
func TestSumsWithoutKnownHeights(t *testing.T) {
	begun := 0
	for seed := 4500; seed < 4580; seed++ {
		_, events := drawRun(seed, showNothing)
		eachAfter(t, without(events, impl.EvKnow), func(w impl.World) {
			for i, c := range w.Chains {
				if c.State.Way == impl.WayInit {
					begun++
				}
				for _, s := range append(slices.Clone(c.Past), c.State) {
					if s.Way > impl.WayInit || !sameState(changedState(s, func(s *impl.State) { s.Way = impl.WayNone }), impl.StateNew()) {
						t.Errorf("chain %d: %v", i+1, s)
					}
				}
				if len(c.Knows) > 0 || c.Bank.Locked != 0 || total(c.Bank.Own) != 30 || total(c.Bank.Notes) != 0 {
					t.Errorf("chain %d: %v", i+1, c)
				}
			}
		})
		eachAfter(t, without(events, impl.EvKnow, impl.EvBlock, impl.EvMove, impl.EvStep), func(w impl.World) {
			if !sameWorld(w, impl.WorldNew()) {
				t.Error(w)
			}
		})
	}
	if begun < 100 {
		t.Error("too few cases", begun)
	}
}

// P77, P85: without transfers between users.
func TestSumsWithoutMoves(t *testing.T) {
	most := 0
	for seed := 4600; seed < 4680; seed++ {
		_, events := drawRun(seed, showNothing)
		eachAfter(t, without(events, impl.EvMove), func(w impl.World) {
			checkCoins(t, w)
			most = max(most, impl.SumNotes(w, 1)+impl.SumNotes(w, 2))
		})
	}
	if most < 20 {
		t.Error("too few coins away", most)
	}
}

// P94: without EvSend, also with quiet rounds behind the events.
func TestSumsWithoutSends(t *testing.T) {
	open := 0
	for seed := 4700; seed < 4780; seed++ {
		_, events := drawRun(seed, showNothing)
		check := func(w impl.World) {
			for id, c := range w.Chains {
				if c.Bank.Locked != 0 || total(c.Bank.Own) != 30 || total(c.Bank.Notes) != 0 || impl.SumNotes(w, id+1) != 0 {
					t.Errorf("chain %d: %v", id+1, c)
				}
				if c.State.Way >= impl.WayOpen {
					open++
				}
			}
			if !impl.SumDone(w) || allAway(w) != 0 || allUsers(w) != 60 {
				t.Error(w)
			}
		}
		events = without(events, impl.EvSend)
		eachAfter(t, events, check)
		w, _ := impl.WorldPlay(events)
		check(impl.WorldCalm(w, 10))
	}
	if open < 100 {
		t.Error("too few open channels", open)
	}
}

// P75, P84: CalmMax quiet rounds behind drawn events, of PlayMax and fewer.
func TestSumsComeToRest(t *testing.T) {
	flying, closed := 0, 0
	for seed := 5000; seed < 5120; seed++ {
		_, events := drawRun(seed, showNothing)
		w, _ := impl.WorldPlay(events[:impl.PlayMax-seed%3*20])
		begun := w.Chains[0].State.Way != impl.WayNone || w.Chains[1].State.Way != impl.WayNone
		flying += len(impl.StateLive(w.Chains[0].State)) + len(impl.StateLive(w.Chains[1].State))
		if !begun {
			closed++
		}
		checkRest(t, impl.WorldCalm(w, impl.CalmMax), begun)
		if t.Failed() {
			t.Fatal(events)
		}
	}
	if flying < 100 || closed > 60 {
		t.Error("too few cases", flying, closed)
	}
}

// P75: PlayMax events that leave just as many heights as there are quiet rounds, with packets of both chains in flight and an upgrade begun.
func TestSumsComeToRestAtLastHeight(t *testing.T) {
	for id := 1; id <= 2; id++ {
		for _, until := range []int{50, 61, 62, 63, 90} {
			events := append(opening(), stepOn(id, 0, impl.StepNew))
			for n := 1; n <= 2; n++ {
				events = slices.Insert(events, len(opening()), sendOn(n, sending{1, 1, 2, 3, until}), sendOn(n, sending{1, 2, 0, 4, until}))
			}
			for len(events) < impl.PlayMax {
				events = append(events, blockOn(id))
			}
			w, ok := impl.WorldPlay(events)
			if !ok || len(impl.StateLive(w.Chains[0].State)) != 2 || len(impl.StateLive(w.Chains[1].State)) != 2 {
				t.Fatal(w, ok)
			}
			calm := impl.WorldCalm(w, impl.CalmMax)
			checkRest(t, calm, true)
			if calm.Chains[0].State.Ver != 2 {
				t.Error(calm)
			}
		}
	}
}

// P87: coins of either kind that are sent in time come, and are refunded if they are for nobody.
func TestSumsArrive(t *testing.T) {
	came := map[sending]int{}
	for _, w := range restingWorlds(5200, 5240) {
		for id := 1; id <= 2; id++ {
			for _, kind := range bankKinds {
				sendable(w, id, kind, func(x sending) {
					inTime := len(w.Chains[2-id].Past) + 3
					for _, until := range []int{inTime, impl.HeightMax} {
						x.until = until
						checkArrives(t, w, id, x)
						came[sending{kind: kind, to: min(x.to, 1)}]++
					}
				})
			}
		}
		if t.Failed() {
			t.FailNow()
		}
	}
	for _, kind := range bankKinds {
		if came[sending{kind: kind}] < 10 || came[sending{kind: kind, to: 1}] < 30 {
			t.Error("too few cases", came)
		}
	}
}

// checkArrives sends coins and checks where they are after a quiet period.
func checkArrives(t *testing.T, w impl.World, id int, x sending) {
	t.Helper()
	seq := len(w.Chains[id-1].State.Sent) + 1
	calm := impl.WorldCalm(impl.WorldDo(w, sendOn(id, x)), 6)
	checkBanks(t, "sent in time", calm, arrived(w, id, x))
	checkRest(t, calm, true)
	fate, got := impl.StateSettled(calm.Chains[id-1].State, seq), impl.StateGot(calm.Chains[2-id].State, seq)
	if x.to == 0 && (fate != 3 || got != impl.GotBad) || x.to > 0 && (fate != 2 || got != impl.GotOk) {
		t.Errorf("%+v of chain %d: fate %d, Got %d", x, id, fate, got)
	}
}

// P88: a voucher that is sent back releases a coin of its chain.
func TestSumsVouchersComeBack(t *testing.T) {
	released := 0
	for _, w := range restingWorlds(5300, 5360) {
		for id := 1; id <= 2; id++ {
			sendable(w, id, impl.CoinNote, func(x sending) {
				if x.to == 0 {
					return
				}
				calm := impl.WorldCalm(impl.WorldDo(w, sendOn(id, x)), 6)
				before, after := w.Chains[2-id].Bank, calm.Chains[2-id].Bank
				if after.Locked != before.Locked-x.sum || amount(after, impl.CoinOwn, x.to) != amount(before, impl.CoinOwn, x.to)+x.sum {
					t.Errorf("%+v: %v, then %v", x, before, after)
				}
				if impl.SumNotes(calm, 3-id) != impl.SumNotes(w, 3-id)-x.sum {
					t.Errorf("%+v: %d vouchers, then %d", x, impl.SumNotes(w, 3-id), impl.SumNotes(calm, 3-id))
				}
				released++
			})
		}
	}
	if released < 50 {
		t.Error("too few cases", released)
	}
}

// P89: an upgrade that one end begins, or both, with all coins there afterwards, also those that are sent just ahead of it.
func TestSumsUpgrade(t *testing.T) {
	vers := map[int]int{}
	for _, w := range restingWorlds(5400, 5440) {
		ver, banks := w.Chains[0].State.Ver, []impl.Bank{w.Chains[0].Bank, w.Chains[1].Bank}
		vers[ver]++
		for _, begin := range [][]impl.Event{{stepOn(1, 0, impl.StepNew)}, {stepOn(2, 0, impl.StepNew)}, {stepOn(1, 0, impl.StepNew), stepOn(2, 0, impl.StepNew)}} {
			calm := impl.WorldCalm(changes(t, w, begin...), 8)
			checkBanks(t, "upgraded", calm, banks)
			checkUpgraded(t, calm, ver+1)
			for id := 1; id <= 2; id++ {
				sendable(w, id, impl.CoinOwn, func(x sending) {
					calm := impl.WorldCalm(changes(t, w, append([]impl.Event{sendOn(id, x)}, begin...)...), 8)
					checkBanks(t, "upgraded behind a packet", calm, arrived(w, id, x))
					checkUpgraded(t, calm, ver+1)
				})
			}
		}
	}
	if vers[1] < 5 || vers[2] < 5 {
		t.Error("too few cases", vers)
	}
}

// checkUpgraded checks that both ends are open in a version, with nothing left to do.
func checkUpgraded(t *testing.T, w impl.World, ver int) {
	t.Helper()
	checkRest(t, w, true)
	if w.Chains[0].State.Ver != ver {
		t.Errorf("in version %d, not %d", w.Chains[0].State.Ver, ver)
	}
}

// P90: coins that are sent and not relayed until their timeout are back once that is known, and not before.
func TestSumsTimeOut(t *testing.T) {
	late := 0
	for _, w := range restingWorlds(5500, 5540) {
		for id := 1; id <= 2; id++ {
			for _, kind := range bankKinds {
				sendable(w, id, kind, func(x sending) {
					x.until = len(w.Chains[2-id].Past) + 1 + late%6
					checkTimesOut(t, w, id, x)
					late++
				})
			}
		}
		if t.Failed() {
			t.FailNow()
		}
	}
	if late < 100 {
		t.Error("too few cases", late)
	}
}

// checkTimesOut sends coins, lets both chains end heights until the timeout, and checks that the coins come back by that height, and by quiet rounds.
func checkTimesOut(t *testing.T, w impl.World, id int, x sending) {
	t.Helper()
	banks := []impl.Bank{w.Chains[0].Bank, w.Chains[1].Bank}
	seq := len(w.Chains[id-1].State.Sent) + 1
	sent := changes(t, w, sendOn(id, x))
	late := sent
	for len(late.Chains[2-id].Past) < x.until {
		late = impl.WorldDo(impl.WorldDo(late, blockOn(1)), blockOn(2))
	}
	unknown := impl.WorldDo(late, lateOn(id, x.until, seq))
	checkBanks(t, "not known", unknown, []impl.Bank{sent.Chains[0].Bank, sent.Chains[1].Bank})
	back := impl.WorldDo(impl.WorldDo(late, knowOn(id, x.until)), lateOn(id, x.until, seq))
	for name, end := range map[string]impl.World{"by its timeout": back, "by quiet rounds": impl.WorldCalm(late, 3)} {
		checkBanks(t, name, end, banks)
		checkRest(t, end, true)
		if fate := impl.StateSettled(end.Chains[id-1].State, seq); fate != 3 {
			t.Errorf("%s: %+v of chain %d: fate %d", name, x, id, fate)
		}
	}
}
