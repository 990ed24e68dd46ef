package tests

import (
	"fmt"
	"slices"
	"strings"
	"testing"
)

// both is a status of two chains, of which the one with this number is the first given.
func both(id int, chain, other standing) string {
	if id == 1 {
		return statusOf(chain, other)
	}
	return statusOf(other, chain)
}

// line is a line of a command and numbers.
func line(command string, numbers ...int) string {
	return command + " " + strings.Trim(fmt.Sprint(numbers), "[]")
}

// getLine is the line by which a chain receives a packet by a height.
func getLine(id, height int, packet ...int) string {
	return line("get", append([]int{id, height}, packet...)...)
}

// added is a list with more of one amount.
func added(amounts [3]int, user, sum int) [3]int {
	amounts[user-1] += sum
	return amounts
}

// P96: a channel that one end begins, after quiet periods of every length, in one part and in two.
func TestLinesOpen(t *testing.T) {
	for id := 1; id <= 2; id++ {
		for rounds := 3; rounds <= 30; rounds++ {
			want := statusOf(restingOf("open", rounds), restingOf("open", rounds))
			checkAnswer(t, script(line("step", id, 0, 1), line("calm", rounds)), want)
			checkAnswer(t, script(line("step", id, 0, 1), line("calm", rounds/2), line("calm", rounds-rounds/2)), want)
		}
	}
	checkAnswer(t, script("step 1 0 1", "step 2 0 1", "calm 3"), statusOf(restingOf("open", 3), restingOf("open", 3)))
	checkAnswer(t, script("calm 30", "step 2 0 1", "calm 3"), statusOf(restingOf("open", 33), restingOf("open", 33)))
}

// P96: without a quiet period, whatever else is tried, unless the steps themselves are relayed; and without a beginning.
func TestLinesNotOpen(t *testing.T) {
	rest := []string{"calm 0", "block 1", "block 2", "know 1 1", "know 2 1", "see", "step 1 0 2", "step 2 0 2", "step 1 0 3", "step 2 0 4", "step 1 1 3", "step 2 1 4", "send 1 1 1 2 3 30", "step 1 0 5"}
	for id := 1; id <= 2; id++ {
		begun := script(line("step", id, 0, 1))
		for i := range rest {
			for _, lines := range [][]string{rest[:i], rest[i:], append(slices.Clone(rest[i:]), rest[:i]...), slices.Concat(rest, rest[i:])} {
				if got := answer(t, begun+script(lines...)); strings.Contains(got, "open") || strings.Contains(got, "try") {
					t.Errorf("%q opens:\n%s", begun+script(lines...), got)
				}
			}
		}
		checkAnswer(t, begun, both(id, restingOf("init", 0), restingOf("none", 0)))
		checkAnswer(t, begun+script("calm 0"), both(id, restingOf("init", 0), restingOf("none", 0)))
	}
	for rounds := 0; rounds <= 30; rounds++ {
		checkAnswer(t, script(line("calm", rounds)), statusOf(restingOf("none", rounds), restingOf("none", rounds)))
	}
}

// eachSending calls a function with both chains, all senders and recipients, and some or all amounts.
func eachSending(each func(id, from, to, sum int)) {
	for id := 1; id <= 2; id++ {
		for from := 1; from <= 3; from++ {
			for to := 1; to <= 3; to++ {
				for sum := 1; sum <= 9; sum++ {
					each(id, from, to, sum)
				}
			}
		}
	}
}

// P97: coins arrive as vouchers, and some or all of the vouchers arrive as coins again.
func TestLinesArrive(t *testing.T) {
	eachSending(func(id, from, to, sum int) {
		text := openScript + script(line("send", id, 1, from, to, sum, 60), "calm 2")
		chain, other := restingOf("open", 5), restingOf("open", 5)
		chain.own, chain.locked, chain.fates = added(chain.own, from, -sum), sum, " done"
		other.notes = added(other.notes, to, sum)
		checkAnswer(t, text, both(id, chain, other))
		for _, back := range []int{1, sum} {
			user := (from+to+back)%3 + 1
			returned, given := chain, other
			returned.heights, returned.own, returned.locked = 8, added(chain.own, user, back), sum-back
			given.heights, given.notes, given.fates = 8, added(other.notes, to, -back), " done"
			checkAnswer(t, text+script(line("send", 3-id, 2, to, user, back, 60), "calm 3"), both(id, returned, given))
		}
	})
}

// P97: several packets on both chains at once, by both kinds.
func TestLinesArriveTogether(t *testing.T) {
	text := openScript + script("send 1 1 1 2 3 40", "send 2 1 3 1 5 40", "send 1 1 1 3 2 40", "calm 2", "send 1 2 1 1 4 40", "send 2 2 2 3 3 40", "send 2 2 3 3 1 40", "calm 2")
	checkAnswer(t, text, statusOf(
		standing{"open", 1, 7, [3]int{5, 10, 14}, 1, [3]int{1, 0, 0}, " done done done"},
		standing{"open", 1, 7, [3]int{14, 10, 5}, 1, [3]int{0, 0, 1}, " done done done"}))
}

// P98: coins sent to nobody are refunded.
func TestLinesNobody(t *testing.T) {
	eachSending(func(id, from, to, sum int) {
		sent := openScript + script(line("send", id, 1, from, 0, sum, 60))
		chain, other := restingOf("open", 3), restingOf("open", 3)
		chain.own, chain.locked, chain.fates = added(chain.own, from, -sum), sum, " live"
		checkAnswer(t, sent, both(id, chain, other))
		chain, other = restingOf("open", 5), restingOf("open", 5)
		chain.fates = " back"
		checkAnswer(t, sent+script("calm 2"), both(id, chain, other))
	})
}

// P98: coins sent too late are refunded. In the first quiet round the other chain ends height 4, so that its next one, 5, must be ahead of the timeout.
func TestLinesTooLate(t *testing.T) {
	for id := 1; id <= 2; id++ {
		for until := 1; until <= 90; until++ {
			text := openScript + script(line("send", id, 1, 3, 2, 7, until), "calm 3")
			chain, other := restingOf("open", 6), restingOf("open", 6)
			if chain.fates = " back"; until > 5 {
				chain.own, chain.locked, chain.fates = [3]int{10, 10, 3}, 7, " done"
				other.notes = [3]int{0, 7, 0}
			}
			checkAnswer(t, text, both(id, chain, other))
		}
	}
}

// P98: vouchers sent back to nobody, or too late.
func TestLinesVouchersRefunded(t *testing.T) {
	for id := 1; id <= 2; id++ {
		held := openScript + script(line("send", 3-id, 1, 1, 2, 8, 60), "calm 2")
		for _, x := range [][2]int{{0, 60}, {0, 1}, {1, 1}, {3, 6}, {2, 7}} {
			text := held + script(line("send", id, 2, 2, x[0], 5, x[1]), "calm 3")
			chain, other := restingOf("open", 8), restingOf("open", 8)
			chain.notes, chain.fates = [3]int{0, 8, 0}, " back"
			other.own, other.locked, other.fates = [3]int{2, 10, 10}, 8, " done"
			checkAnswer(t, text, both(id, chain, other))
		}
	}
}

// P99: an upgrade, with packets that were sent before it on both chains.
func TestLinesUpgrade(t *testing.T) {
	for id := 1; id <= 2; id++ {
		sent := openScript + script(line("send", id, 1, 1, 2, 3, 60), line("send", 3-id, 1, 2, 1, 4, 60), line("send", id, 1, 3, 0, 5, 60), line("step", id, 0, 5))
		chain := standing{"flush", 1, 3, [3]int{7, 10, 5}, 8, [3]int{}, " live live"}
		other := standing{"open", 1, 3, [3]int{10, 6, 10}, 4, [3]int{}, " live"}
		checkAnswer(t, sent, both(id, chain, other))
		for rounds := 5; rounds <= 30; rounds += 5 {
			chain := standing{"open", 2, 3 + rounds, [3]int{7, 10, 10}, 3, [3]int{4, 0, 0}, " done back"}
			other := standing{"open", 2, 3 + rounds, [3]int{10, 6, 10}, 4, [3]int{0, 3, 0}, " done"}
			checkAnswer(t, sent+script(line("calm", rounds)), both(id, chain, other))
		}
	}
}

// P99: a packet is received in the version in which it was sent, and not under another one; behind the upgrade, in the new one.
func TestLinesUpgradeVersions(t *testing.T) {
	for id := 1; id <= 2; id++ {
		sent := openScript + script(line("send", id, 1, 1, 2, 3, 60), line("block", id), line("know", 3-id, 4))
		flushed := sent + script(line("step", id, 0, 5), line("block", id), line("know", 3-id, 5), line("step", 3-id, 5, 6))
		for _, before := range []string{sent, flushed} {
			checkIdle(t, before, getLine(3-id, 4, 1, 1, 1, 2, 3, 60, 2), "")
			checkEffect(t, before, getLine(3-id, 4, 1, 1, 1, 2, 3, 60, 1))
		}
		upgraded := openScript + script(line("step", id, 0, 5), "calm 5", line("send", id, 1, 1, 2, 3, 60), line("block", id), line("know", 3-id, 9))
		checkIdle(t, upgraded, getLine(3-id, 9, 1, 1, 1, 2, 3, 60, 1), "")
		checkEffect(t, upgraded, getLine(3-id, 9, 1, 1, 1, 2, 3, 60, 2))
	}
}

// P99: an upgrade to each version up to the last one, begun at either end or at both.
func TestLinesUpgrades(t *testing.T) {
	for _, begin := range []string{"step 1 0 5\n", "step 2 0 5\n", "step 1 0 5\nstep 2 0 5\n"} {
		text := openScript
		for ver := 2; ver <= 9; ver++ {
			text += begin + "calm 5\n"
			end := standing{"open", ver, 3 + 5*(ver-1), [3]int{10, 10, 10}, 0, [3]int{}, ""}
			checkAnswer(t, text, statusOf(end, end))
		}
		checkIdle(t, text, "step 1 0 5", "")
		checkIdle(t, text, "step 2 0 5", "")
	}
}

// P100: a packet is received by a known height at which it was sent, and not by one that is unknown or earlier.
func TestLinesRelayedByHeight(t *testing.T) {
	for id := 1; id <= 2; id++ {
		for sentAt := 4; sentAt <= 8; sentAt++ {
			before := openScript + strings.Repeat(line("block", id)+"\n", sentAt-4) + script(line("send", id, 1, 1, 2, 3, 60)) + strings.Repeat(line("block", id)+"\n", 3)
			all := before
			for height := 1; height <= sentAt+2; height++ {
				all += script(line("know", 3-id, height))
			}
			for height := 0; height <= sentAt+3; height++ {
				get := getLine(3-id, height, 1, 1, 1, 2, 3, 60, 1)
				others := before
				for known := 1; known <= sentAt+2; known++ {
					if known != height {
						others += script(line("know", 3-id, known))
					}
				}
				if height > 3 {
					checkIdle(t, others, get, "")
				}
				if height < sentAt || height > sentAt+2 {
					checkIdle(t, all, get, "")
					continue
				}
				checkReceived(t, id, sentAt+2, all+script(get))
				checkReceived(t, id, sentAt+2, before+script(line("know", 3-id, height), get))
			}
		}
	}
}

// checkReceived checks that 3 coins of user 1 came to user 2 of the other chain, and are still in flight for their own one.
func checkReceived(t *testing.T, id, heights int, text string) {
	t.Helper()
	chain, other := restingOf("open", heights), restingOf("open", 3)
	chain.own, chain.locked, chain.fates = [3]int{7, 10, 10}, 3, " live"
	other.notes = [3]int{0, 3, 0}
	checkAnswer(t, text, both(id, chain, other))
}

// P100: vouchers that are sent back, and a packet that is received already or settled.
func TestLinesRelayedOnce(t *testing.T) {
	for id := 1; id <= 2; id++ {
		held := openScript + script(line("send", id, 1, 1, 2, 8, 60), "calm 2")
		sent := held + script(line("send", 3-id, 2, 2, 3, 5, 60), line("block", 3-id))
		get := getLine(id, 6, 1, 2, 2, 3, 5, 60, 1)
		checkIdle(t, sent, get, "")
		checkIdle(t, sent+script(line("know", id, 6)), getLine(id, 5, 1, 2, 2, 3, 5, 60, 1), "")
		text := sent + script(line("know", id, 6), get)
		chain := standing{"open", 1, 5, [3]int{2, 10, 15}, 3, [3]int{}, " done"}
		other := standing{"open", 1, 6, [3]int{10, 10, 10}, 0, [3]int{0, 3, 0}, " live"}
		checkAnswer(t, text, both(id, chain, other))
		checkIdle(t, text, get, "")
		checkIdle(t, text+script("calm 2"), get, "")
	}
}

// P103: coins are refunded by a known height of the other chain that is the timeout or later, and not by an earlier or unknown one.
func TestLinesRefundedByHeight(t *testing.T) {
	for id := 1; id <= 2; id++ {
		for until := 1; until <= 7; until++ {
			before := openScript + script(line("send", id, 1, 2, 3, 6, until)) + strings.Repeat(line("block", 3-id)+"\n", 5)
			all := before
			for height := 1; height <= 8; height++ {
				all += script(line("know", id, height))
			}
			for height := 0; height <= 9; height++ {
				late := line("late", id, height, 1)
				if height > 3 {
					checkIdle(t, before, late, "")
				}
				if height < until || height > 8 {
					checkIdle(t, all, late, "")
					continue
				}
				chain, other := restingOf("open", 3), restingOf("open", 8)
				chain.fates = " back"
				want := both(id, chain, other)
				checkAnswer(t, all+script(late), want)
				checkAnswer(t, before+script(line("know", id, height), late), want)
				checkIdle(t, all+script(late), late, "")
			}
		}
	}
}

// P103: coins that came are not refunded, whatever height is known; vouchers are refunded as coins are.
func TestLinesRefundedOrReceived(t *testing.T) {
	for id := 1; id <= 2; id++ {
		sent := openScript + script(line("send", id, 1, 2, 3, 6, 6), line("block", id), line("know", 3-id, 4))
		behind := script(line("block", 3-id), line("block", 3-id), line("block", 3-id), line("know", id, 6))
		received := sent + script(getLine(3-id, 4, 1, 1, 2, 3, 6, 6, 1)) + behind
		checkIdle(t, received, line("late", id, 6, 1), "")
		checkIdle(t, received, line("late", id, 3, 1), "")
		checkEffect(t, sent+behind, line("late", id, 6, 1))
		checkIdle(t, sent+behind+script(line("late", id, 6, 1)), getLine(3-id, 4, 1, 1, 2, 3, 6, 6, 1), "")
		held := openScript + script(line("send", 3-id, 1, 1, 1, 9, 60), "calm 2", line("send", id, 2, 1, 2, 4, 7), line("block", 3-id), line("block", 3-id), line("know", id, 6))
		checkIdle(t, held, line("late", id, 6, 1), "")
		checkIdle(t, held, line("late", id, 7, 1), "")
		chain := standing{"open", 1, 5, [3]int{10, 10, 10}, 0, [3]int{9, 0, 0}, " back"}
		other := standing{"open", 1, 7, [3]int{1, 10, 10}, 9, [3]int{}, " done"}
		checkAnswer(t, held+script(line("know", id, 7), line("late", id, 7, 1)), both(id, chain, other))
	}
}

// P102: "see" and "what" behind scripts of any length, up to one with which the script is too long.
func TestLinesSeeOrWhatBehind(t *testing.T) {
	for _, before := range someScripts() {
		checkBehind(t, before)
	}
	for n := 590; n <= 600; n++ {
		checkBehind(t, strings.Repeat("x", n-1)+"\n")
		checkBehind(t, busyScript+strings.Repeat("\n", n-len(busyScript)))
	}
}

// checkBehind checks what P102 says of a script.
func checkBehind(t *testing.T, text string) {
	t.Helper()
	ahead, status := parts(t, text)
	for _, x := range [][2]string{{"see\n", status}, {"what\n", "what\n"}, {"see\nsee\n", status + status}, {"what\nsee\n", "what\n" + status}} {
		if len(text+x[0]) > 600 {
			checkAnswer(t, text+x[0], "too long\n")
		} else {
			checkAnswer(t, text+x[0], ahead+x[1]+status)
		}
	}
}
