package fsm_test

import (
	"math"
	"math/rand"
	"slices"
	"strings"
	"testing"

	"concierge/api"
	"concierge/fsm"
)

// early and late are the chapter's table, as it stands there: events down, the states 0 to 5 and 6 to 9 across.
const early = `
| Up | 2 | irc scr/6 | - | - | - | - |
| Down | - | - | 0 | tls/1 | 0 | 1 |
| Open | tls/1 | 1 | irc scr/6 | 3 | 5 | 5 |
| Close | 0 | tlf/0 | 2 | 2 | 4 | 4 |
| TO+ | - | - | - | - | str/4 | str/5 |
| TO- | - | - | - | - | tlf/2 | tlf/3 |
| RCR+ | - | - | sta/2 | irc scr sca/8 | 4 | 5 |
| RCR- | - | - | sta/2 | irc scr scn/6 | 4 | 5 |
| RCA | - | - | sta/2 | sta/3 | 4 | 5 |
| RCN | - | - | sta/2 | sta/3 | 4 | 5 |
| RTR | - | - | sta/2 | sta/3 | sta/4 | sta/5 |
| RTA | - | - | 2 | 3 | tlf/2 | tlf/3 |
| RUC | - | - | scj/2 | scj/3 | scj/4 | scj/5 |
| RXJ+ | - | - | 2 | 3 | 4 | 5 |
| RXJ- | - | - | tlf/2 | tlf/3 | tlf/2 | tlf/3 |
| RXR | - | - | 2 | 3 | 4 | 5 |
`

const late = `
| Up | - | - | - | - |
| Down | 1 | 1 | 1 | tld/1 |
| Open | 6 | 7 | 8 | 9 |
| Close | irc str/4 | irc str/4 | irc str/4 | tld irc str/4 |
| TO+ | scr/6 | scr/6 | scr/8 | - |
| TO- | tlf/3 | tlf/3 | tlf/3 | - |
| RCR+ | sca/8 | sca tlu/9 | sca/8 | tld scr sca/8 |
| RCR- | scn/6 | scn/7 | scn/6 | tld scr scn/6 |
| RCA | irc/7 | scr/6 | irc tlu/9 | tld scr/6 |
| RCN | irc scr/6 | scr/6 | irc scr/8 | tld scr/6 |
| RTR | sta/6 | sta/6 | sta/6 | tld zrc sta/5 |
| RTA | 6 | 6 | 8 | tld scr/6 |
| RUC | scj/6 | scj/7 | scj/8 | scj/9 |
| RXJ+ | 6 | 6 | 8 | 9 |
| RXJ- | tlf/3 | tlf/3 | tlf/3 | tld irc str/5 |
| RXR | 6 | 7 | 8 | ser/9 |
`

// stateNames, eventNames and actionNames are the table's, by their numbers; none is that of no event or action.
var (
	stateNames  = []string{"Initial", "Starting", "Closed", "Stopped", "Closing", "Stopping", "Req-Sent", "Ack-Rcvd", "Ack-Sent", "Opened"}
	eventNames  = []string{"", "Up", "Down", "Open", "Close", "TO+", "TO-", "RCR+", "RCR-", "RCA", "RCN", "RTR", "RTA", "RUC", "RXJ+", "RXJ-", "RXR"}
	actionNames = []string{"", "tlu", "tld", "tls", "tlf", "irc", "zrc", "scr", "sca", "scn", "str", "sta", "scj", "ser"}
)

// far are numbers of no state, event or action.
var far = []int{math.MinInt, math.MinInt + 1, -1 << 32, -17, -10, -9, -2, -1, 17, 18, 255, 256, 1 << 31, 1 << 32, 1<<32 + 1, 1<<32 + 9, math.MaxInt - 1, math.MaxInt}

// move is what the table says of an event in a state.
type move struct {
	can  bool
	next api.State
	done []api.Action
}

// table is both halves, by states and events.
var table = read()

// read reads both halves.
func read() [10][17]move {
	var t [10][17]move
	for half, text := range []string{early, late} {
		for i, line := range strings.Split(strings.TrimSpace(text), "\n") {
			for k, cell := range strings.Split(strings.Trim(line, "| "), "|") {
				cell = strings.TrimSpace(cell)
				if k > 0 {
					t[6*half+k-1][i+1] = readCell(cell)
				} else if cell != eventNames[i+1] {
					panic("no event " + cell)
				}
			}
		}
	}
	return t
}

// readCell reads what stands in one place of the table.
func readCell(cell string) move {
	if cell == "-" {
		return move{}
	}
	var done []api.Action
	actions, next, both := strings.Cut(cell, "/")
	if !both {
		actions, next = "", cell
	}
	for _, name := range strings.Fields(actions) {
		done = append(done, api.Action(slices.Index(actionNames, name)))
	}
	return move{can: true, next: api.State(next[0] - '0'), done: done}
}

// states are all, events too.
func states() []api.State {
	var l []api.State
	for s := range 10 {
		l = append(l, api.State(s))
	}
	return l
}

func events() []api.Event {
	var l []api.Event
	for e := 1; e <= 16; e++ {
		l = append(l, api.Event(e))
	}
	return l
}

// wrongStates are numbers of no state, wrongEvents and wrongActions likewise.
func wrongStates() []api.State {
	l := []api.State{10, 11, 16}
	for _, n := range far {
		l = append(l, api.State(n))
	}
	return l
}

func wrongEvents() []api.Event {
	l := []api.Event{api.NoEvent}
	for _, n := range far {
		l = append(l, api.Event(n))
	}
	return l
}

func wrongActions() []api.Action {
	l := []api.Action{api.NoAction, 14, 15, 16}
	for _, n := range far {
		l = append(l, api.Action(n))
	}
	return l
}

// expected is what Step should tell, by the table.
func expected(s api.State, e api.Event) (api.State, []api.Action, api.Errno) {
	if s < 0 || s > 9 || e < 1 || e > 16 {
		return 0, nil, api.ErrFsm
	}
	m := table[s][e]
	if !m.can {
		return 0, nil, api.ErrRange
	}
	return m.next, m.done, api.OK
}

// expectedWalk is what Walk should tell, by the table.
func expectedWalk(s api.State, l []api.Event) (api.State, []api.Action, int, api.Errno) {
	if s < 0 || s > 9 {
		return 0, nil, 0, api.ErrFsm
	}
	var all []api.Action
	for i, e := range l {
		next, done, err := expected(s, e)
		if err != api.OK {
			return s, all, i, err
		}
		s, all = next, append(all, done...)
	}
	return s, all, len(l), api.OK
}

// steps fails where Step tells something else than the table.
func steps(t *testing.T, s api.State, e api.Event) {
	t.Helper()
	next, done, err := fsm.Step(s, e)
	wantNext, wantDone, wantErr := expected(s, e)
	if next != wantNext || !slices.Equal(done, wantDone) || err != wantErr {
		t.Errorf("Step of %d, %d: %d, %v, %d, not %d, %v, %d", s, e, next, done, err, wantNext, wantDone, wantErr)
	}
}

// walks fails where Walk tells something else than the table, or changes what it was given.
func walks(t *testing.T, s api.State, l ...api.Event) {
	t.Helper()
	given := slices.Clone(l)
	next, all, n, err := fsm.Walk(s, l...)
	wantNext, wantAll, wantN, wantErr := expectedWalk(s, given)
	if next != wantNext || !slices.Equal(all, wantAll) || n != wantN || err != wantErr {
		t.Errorf("Walk of %d, %v: %d, %v, %d, %d, not %d, %v, %d, %d", s, given, next, all, n, err, wantNext, wantAll, wantN, wantErr)
	}
	if !slices.Equal(l, given) {
		t.Errorf("Walk of %d changed %v to %v", s, given, l)
	}
}

// P14.1

func TestTable(t *testing.T) {
	cells, can := 0, 0
	for _, s := range states() {
		for _, e := range events() {
			steps(t, s, e)
			cells++
			if table[s][e].can {
				can++
			}
		}
	}
	// Else the table of the test was not read.
	if cells != 160 || can != 160-(8+2+5+5+10*2) {
		t.Errorf("%d places, %d that can be", cells, can)
	}
}

func TestStepByHand(t *testing.T) {
	// Some of the table without reading it.
	for _, c := range []struct {
		s    api.State
		e    api.Event
		next api.State
		done []api.Action
		err  api.Errno
	}{
		{api.Initial, api.Up, api.Closed, nil, api.OK},
		{api.Initial, api.Down, 0, nil, api.ErrRange},
		{api.Initial, api.Close, api.Initial, nil, api.OK},
		{api.Initial, api.RXR, 0, nil, api.ErrRange},
		{api.Starting, api.Up, api.ReqSent, []api.Action{api.IRC, api.SCR}, api.OK},
		{api.Starting, api.Close, api.Initial, []api.Action{api.TLF}, api.OK},
		{api.Closed, api.TOPlus, 0, nil, api.ErrRange},
		{api.Stopped, api.Down, api.Starting, []api.Action{api.TLS}, api.OK},
		{api.Stopped, api.Open, api.Stopped, nil, api.OK},
		{api.Stopped, api.RCRPlus, api.AckSent, []api.Action{api.IRC, api.SCR, api.SCA}, api.OK},
		{api.Stopped, api.RCRMin, api.ReqSent, []api.Action{api.IRC, api.SCR, api.SCN}, api.OK},
		{api.Closing, api.TOPlus, api.Closing, []api.Action{api.STR}, api.OK},
		{api.Stopping, api.Close, api.Closing, nil, api.OK},
		{api.ReqSent, api.RCRMin, api.ReqSent, []api.Action{api.SCN}, api.OK},
		{api.AckRcvd, api.RCRPlus, api.Opened, []api.Action{api.SCA, api.TLU}, api.OK},
		{api.AckSent, api.RCA, api.Opened, []api.Action{api.IRC, api.TLU}, api.OK},
		{api.Opened, api.Up, 0, nil, api.ErrRange},
		{api.Opened, api.Close, api.Closing, []api.Action{api.TLD, api.IRC, api.STR}, api.OK},
		{api.Opened, api.TOMinus, 0, nil, api.ErrRange},
		{api.Opened, api.RTR, api.Stopping, []api.Action{api.TLD, api.ZRC, api.STA}, api.OK},
		{api.Opened, api.RUC, api.Opened, []api.Action{api.SCJ}, api.OK},
		{api.Opened, api.RXJMin, api.Stopping, []api.Action{api.TLD, api.IRC, api.STR}, api.OK},
		{api.Opened, api.RXR, api.Opened, []api.Action{api.SER}, api.OK},
	} {
		next, done, err := fsm.Step(c.s, c.e)
		if next != c.next || !slices.Equal(done, c.done) || err != c.err {
			t.Errorf("Step of %d, %d: %d, %v, %d", c.s, c.e, next, done, err)
		}
	}
}

func TestStepOfNone(t *testing.T) {
	refuses := func(s api.State, e api.Event) {
		t.Helper()
		if next, done, err := fsm.Step(s, e); next != 0 || len(done) != 0 || err != api.ErrFsm {
			t.Errorf("Step of %d, %d: %d, %v, %d", s, e, next, done, err)
		}
	}
	for _, s := range wrongStates() {
		for _, e := range append(events(), wrongEvents()...) {
			refuses(s, e)
		}
	}
	for _, s := range states() { // also where no event can come, or few
		for _, e := range wrongEvents() {
			refuses(s, e)
		}
	}
}

func TestStepIsNewMemory(t *testing.T) {
	for _, s := range states() {
		for _, e := range events() {
			_, one, _ := fsm.Step(s, e)
			_, other, _ := fsm.Step(s, e)
			for i := range one {
				one[i] = -1
			}
			one = append(one, -1)
			if _, want, _ := expected(s, e); !slices.Equal(other, want) {
				t.Errorf("Step of %d, %d: %v behind a change of %v", s, e, other, one)
			}
			steps(t, s, e)
		}
	}
}

// P14.2

func TestTheExample(t *testing.T) {
	s, l, n, err := fsm.Walk(api.Closed, api.Open, api.RCA, api.RCRPlus)
	if s != api.Opened || !slices.Equal(l, []api.Action{api.IRC, api.SCR, api.IRC, api.SCA, api.TLU}) || n != 3 || err != api.OK {
		t.Errorf("%d, %v, %d, %d", s, l, n, err)
	}
}

func TestWalkOfNothing(t *testing.T) {
	for _, s := range states() {
		for _, l := range [][]api.Event{nil, {}} {
			if at, all, n, err := fsm.Walk(s, l...); at != s || len(all) != 0 || n != 0 || err != api.OK {
				t.Errorf("Walk of %d: %d, %v, %d, %d", s, at, all, n, err)
			}
		}
	}
}

func TestWalkOfNoState(t *testing.T) {
	for _, s := range wrongStates() {
		for _, l := range [][]api.Event{nil, {}, {api.Up}, {api.Close, api.Close}, {api.NoEvent}, {-1, api.Up}} {
			if at, all, n, err := fsm.Walk(s, l...); at != 0 || len(all) != 0 || n != 0 || err != api.ErrFsm {
				t.Errorf("Walk of %d, %v: %d, %v, %d, %d", s, l, at, all, n, err)
			}
		}
	}
}

func TestWalkThatCannotGoOn(t *testing.T) {
	tells := func(s api.State, l []api.Event, at api.State, all []api.Action, n int, err api.Errno) {
		t.Helper()
		gotAt, gotAll, gotN, gotErr := fsm.Walk(s, l...)
		if gotAt != at || !slices.Equal(gotAll, all) || gotN != n || gotErr != err {
			t.Errorf("Walk of %d, %v: %d, %v, %d, %d", s, l, gotAt, gotAll, gotN, gotErr)
		}
	}
	// At once, between, and at the end; what stands behind it is not done.
	tells(api.Opened, []api.Event{api.Up, api.Down}, api.Opened, nil, 0, api.ErrRange)
	tells(api.Opened, []api.Event{api.NoEvent, api.Down}, api.Opened, nil, 0, api.ErrFsm)
	tells(api.Closed, []api.Event{api.Open, api.RCA, api.Up, api.RCRPlus}, api.AckRcvd, []api.Action{api.IRC, api.SCR, api.IRC}, 2, api.ErrRange)
	tells(api.Closed, []api.Event{api.Open, api.RCA, 17, api.RCRPlus}, api.AckRcvd, []api.Action{api.IRC, api.SCR, api.IRC}, 2, api.ErrFsm)
	tells(api.Closed, []api.Event{api.Open, api.Down, api.Down}, api.Starting, []api.Action{api.IRC, api.SCR}, 2, api.ErrRange)
	tells(api.Initial, []api.Event{api.Up, api.Down, -1}, api.Initial, nil, 2, api.ErrFsm)
	// The first error is told, of whichever kind.
	tells(api.Closed, []api.Event{api.Up, api.NoEvent}, api.Closed, nil, 0, api.ErrRange)
	tells(api.Closed, []api.Event{api.NoEvent, api.Up}, api.Closed, nil, 0, api.ErrFsm)
	for _, s := range states() {
		for _, e := range wrongEvents() {
			tells(s, []api.Event{e}, s, nil, 0, api.ErrFsm)
			tells(s, []api.Event{api.Close, e, api.Close}, table[s][api.Close].next, table[s][api.Close].done, 1, api.ErrFsm)
		}
	}
}

func TestAllShortWalks(t *testing.T) {
	all := append(events(), api.NoEvent, 17)
	for _, s := range append(states(), -1, 10) {
		for _, a := range all {
			walks(t, s, a)
			for _, b := range all {
				walks(t, s, a, b)
				for _, c := range all {
					walks(t, s, a, b, c)
				}
			}
		}
	}
}

func TestRandomWalks(t *testing.T) {
	rnd := rand.New(rand.NewSource(14))
	for range 2000 {
		s := api.State(rnd.Intn(10))
		at, end := s, rnd.Intn(200)
		var l []api.Event
		for range end {
			e := api.Event(1 + rnd.Intn(16))
			if m := table[at][e]; m.can {
				at, l = m.next, append(l, e)
			}
		}
		walks(t, s, l...)
		walks(t, s, append(l, api.Event(rnd.Intn(19)-1), api.Close)...)
	}
}

func TestLongWalk(t *testing.T) {
	const rounds = 200000
	l := slices.Repeat([]api.Event{api.Open, api.RCA, api.RCRPlus, api.Close, api.RTA}, rounds)
	s, all, n, err := fsm.Walk(api.Closed, l...)
	once := []api.Action{api.IRC, api.SCR, api.IRC, api.SCA, api.TLU, api.TLD, api.IRC, api.STR, api.TLF}
	if s != api.Closed || n != len(l) || err != api.OK || !slices.Equal(all, slices.Repeat(once, rounds)) {
		t.Errorf("%d, %d actions, %d, %d", s, len(all), n, err)
	}
}

func TestWalkIsNewMemory(t *testing.T) {
	l := []api.Event{api.Open, api.RCA, api.RCRPlus}
	_, one, _, _ := fsm.Walk(api.Closed, l...)
	_, other, _, _ := fsm.Walk(api.Closed, l...)
	for i := range one {
		one[i] = -1
	}
	one = append(one, -1)
	l[0] = api.Up
	if want := []api.Action{api.IRC, api.SCR, api.IRC, api.SCA, api.TLU}; !slices.Equal(other, want) {
		t.Errorf("%v behind a change of %v", other, one)
	}
	walks(t, api.Closed, api.Open, api.RCA, api.RCRPlus)
}

// P14.3

func TestTimed(t *testing.T) {
	for _, s := range states() {
		if timed := fsm.Timed(s); timed != (s == api.Closing || s == api.Stopping || s == api.ReqSent || s == api.AckRcvd || s == api.AckSent) {
			t.Errorf("Timed of %d: %v", s, timed)
		}
	}
	for _, s := range wrongStates() {
		if fsm.Timed(s) {
			t.Errorf("Timed of %d", s)
		}
	}
}

func TestTimedIsWhereATimeoutCanCome(t *testing.T) {
	for _, s := range append(states(), wrongStates()...) {
		for _, e := range []api.Event{api.TOPlus, api.TOMinus} {
			if _, _, err := fsm.Step(s, e); (err == api.OK) != fsm.Timed(s) {
				t.Errorf("Timed of %d: %v, and Step of %d: %d", s, fsm.Timed(s), e, err)
			}
		}
	}
}

func TestNames(t *testing.T) {
	for n, name := range stateNames {
		if got := fsm.Name(api.State(n)); got != name {
			t.Errorf("Name of %d: %q", n, got)
		}
	}
	for n, name := range eventNames {
		if got := fsm.EventName(api.Event(n)); got != name {
			t.Errorf("EventName of %d: %q", n, got)
		}
	}
	for n, name := range actionNames {
		if got := fsm.ActionName(api.Action(n)); got != name {
			t.Errorf("ActionName of %d: %q", n, got)
		}
	}
}

func TestNamesOfNone(t *testing.T) {
	for _, s := range wrongStates() {
		if name := fsm.Name(s); name != "" {
			t.Errorf("Name of %d: %q", s, name)
		}
	}
	for _, e := range wrongEvents() {
		if name := fsm.EventName(e); name != "" {
			t.Errorf("EventName of %d: %q", e, name)
		}
	}
	for _, a := range wrongActions() {
		if name := fsm.ActionName(a); name != "" {
			t.Errorf("ActionName of %d: %q", a, name)
		}
	}
}

func TestParse(t *testing.T) {
	for _, s := range states() {
		if got, there := fsm.Parse(stateNames[s]); got != s || !there {
			t.Errorf("Parse of %q: %d, %v", stateNames[s], got, there)
		}
		if got, there := fsm.Parse(fsm.Name(s)); got != s || !there {
			t.Errorf("Parse of the name of %d: %d, %v", s, got, there)
		}
	}
}

func TestParseOfNone(t *testing.T) {
	none := []string{"", " ", "0", "2", "9", "-", "None", "Dead", "ReqSent", "Req Sent", "Req_Sent", "Reqsent", "Req-sent", "Req-Rcvd", "AckRcvd", "AckSent", "Ack-", "Ack", "Close", "Open", "Up", "TO+", "tlu", "\x00", "\xff\xfe", strings.Repeat("Opened", 100000)}
	none = append(none, eventNames...)
	none = append(none, actionNames...)
	for n, name := range stateNames {
		none = append(none, strings.ToLower(name), strings.ToUpper(name), name+" ", " "+name, name+"\x00", name+name, name[1:], name[:len(name)-1], string(rune('0'+n))+" "+name, name+"\n")
	}
	for _, text := range none {
		if s, there := fsm.Parse(text); s != 0 || there {
			t.Errorf("Parse of %q: %d, %v", text, s, there)
		}
	}
}

// P14.4 to P14.7 are asked of what Step tells, without the table.

// eachStep gives each event that can come in each state.
func eachStep(t *testing.T, see func(s, next api.State, e api.Event, done []api.Action)) {
	t.Helper()
	seen := 0
	for _, s := range states() {
		for _, e := range events() {
			next, done, err := fsm.Step(s, e)
			if err == api.OK {
				see(s, next, e, done)
				seen++
			}
		}
	}
	if seen == 0 {
		t.Error("no event can come")
	}
}

// count is how often the action is done.
func count(l []api.Action, a api.Action) int {
	n := 0
	for _, b := range l {
		if a == b {
			n++
		}
	}
	return n
}

// one is 1, if it is so, else 0.
func one(so bool) int {
	if so {
		return 1
	}
	return 0
}

func TestUpAndDown(t *testing.T) {
	eachStep(t, func(s, next api.State, e api.Event, done []api.Action) {
		in := s != api.Opened && next == api.Opened
		out := s == api.Opened && next != api.Opened
		if count(done, api.TLU) != one(in) || count(done, api.TLD) != one(out) {
			t.Errorf("%d in %d: %v, to %d", e, s, done, next)
		}
	})
}

func TestUpAndDownOnTheWay(t *testing.T) {
	// Over any events each tlu has its tld, but the last one where the end is Opened.
	rnd := rand.New(rand.NewSource(144))
	opened := 0
	for range 500 {
		var l []api.Event
		s, all := api.Initial, []api.Action(nil)
		for range 300 {
			e := api.Event(1 + rnd.Intn(16))
			next, done, n, err := fsm.Walk(s, e)
			if err == api.OK && n == 1 {
				l, s, all = append(l, e), next, append(all, done...)
			}
		}
		up := false
		for _, a := range all {
			if a == api.TLU && up || a == api.TLD && !up {
				t.Fatalf("%v: %v", l, all)
			}
			up = a == api.TLU || up && a != api.TLD
		}
		if up != (s == api.Opened) {
			t.Fatalf("%v: %v, to %d", l, all, s)
		}
		opened += count(all, api.TLU)
	}
	if opened == 0 {
		t.Error("none came to Opened")
	}
}

func TestFinished(t *testing.T) {
	eachStep(t, func(s, next api.State, e api.Event, done []api.Action) {
		if count(done, api.TLF) > one(next == api.Initial || next == api.Closed || next == api.Stopped) {
			t.Errorf("%d in %d: %v, to %d", e, s, done, next)
		}
	})
}

func TestAsked(t *testing.T) {
	eachStep(t, func(s, next api.State, e api.Event, done []api.Action) {
		if count(done, api.SCR) > one(next >= api.ReqSent && next <= api.AckSent) {
			t.Errorf("%d in %d: %v, to %d", e, s, done, next)
		}
	})
}

func TestEnds(t *testing.T) {
	ended := 0
	for _, s := range states() {
		if !fsm.Timed(s) {
			continue
		}
		next, done, n, err := fsm.Walk(s, api.TOMinus)
		if fsm.Timed(next) || !slices.Equal(done, []api.Action{api.TLF}) || n != 1 || err != api.OK {
			t.Errorf("TO- in %d: %d, %v, %d, %d", s, next, done, n, err)
		}
		if at, _, n, err := fsm.Walk(s, api.TOMinus, api.TOMinus); at != next || n != 1 || err != api.ErrRange {
			t.Errorf("TO- in %d twice: %d, %d, %d", s, at, n, err)
		}
		// However often it was asked before.
		asked := append(slices.Repeat([]api.Event{api.TOPlus}, 1000), api.TOMinus)
		if at, _, n, err := fsm.Walk(s, asked...); fsm.Timed(at) || n != len(asked) || err != api.OK {
			t.Errorf("TO- in %d at last: %d, %d, %d", s, at, n, err)
		}
		ended++
	}
	if ended != 5 {
		t.Errorf("%d states with a timer", ended)
	}
}
