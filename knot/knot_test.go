package knot

import (
	"math"
	"math/rand"
	"reflect"
	"slices"
	"testing"

	"quittance/api"
	"quittance/ledger"
)

// counts: how many payments of each bank.
type counts = [api.Banks]int

// add queues a payment with the next place.
func add(h *api.House, from, to, amount, class int) {
	h.Pays = append(h.Pays, api.Pay{From: from, To: to, Amount: amount, Class: class, State: api.Queued, Seq: h.Next})
	h.Next++
}

// houseOf is a house of queued payments of class 0, each from, to, amount.
func houseOf(pays ...[3]int) api.House {
	h := ledger.New()
	for _, p := range pays {
		add(&h, p[0], p[1], p[2], 0)
	}
	return h
}

// ring is the example of the document: a circle of three banks that have nothing.
func ring() api.House {
	return houseOf([3]int{0, 1, 9}, [3]int{1, 2, 9}, [3]int{2, 0, 9})
}

// pair is two banks that have nothing and owe each other.
func pair(there, back int) api.House {
	return houseOf([3]int{0, 1, there}, [3]int{1, 0, back})
}

// copyOf shares no list with h.
func copyOf(h api.House) api.House {
	h.Pays = slices.Clone(h.Pays)
	return h
}

// with is h after a change.
func with(h api.House, change func(h *api.House)) api.House {
	change(&h)
	return h
}

// check compares Together for each of the numbers.
func check(t *testing.T, name string, h api.House, want bool, all ...counts) {
	t.Helper()
	if !ledger.Good(h) {
		t.Fatalf("%s: the house is not valid, so the test says nothing", name)
	}
	for _, n := range all {
		if got := Together(h, n); got != want {
			t.Errorf("%s: Together(%v) = %v", name, n, got)
		}
	}
}

func TestTogetherOfARing(t *testing.T) {
	check(t, "ring", ring(), true, counts{1, 1, 1, 0}, counts{})
	check(t, "ring", ring(), false, counts{1, 1, 0, 0}, counts{1, 0, 1, 0}, counts{0, 1, 1, 0}, counts{1, 0, 0, 0})
}

func TestTogetherNeedsValidNumbers(t *testing.T) {
	h := ring()
	for i := range api.Banks {
		h.Accounts[i].Has = 1000
	}
	check(t, "rich ring", h, true, counts{1, 0, 0, 0}, counts{1, 1, 1, 0})
	for i, most := range []int{1, 1, 1, 0} {
		for _, bad := range []int{math.MinInt, -1, most + 1, math.MaxInt} {
			var n counts
			n[i] = bad
			check(t, "rich ring", h, false, n)
		}
	}
}

func TestTogetherCountsQueuedPaymentsOnly(t *testing.T) {
	h := houseOf([3]int{0, 1, 1}, [3]int{0, 1, 1}, [3]int{0, 1, 1})
	h.Pays[0].State, h.Pays[1].State = api.Done, api.Gone
	h.Accounts[0].Has = 1
	check(t, "one of three", h, true, counts{1})
	h.Accounts[0].Has = 3
	check(t, "one of three", h, false, counts{2}, counts{3})
}

func TestTogetherTakesTheFirstOfEachQueue(t *testing.T) {
	h := ledger.New()
	add(&h, 0, 1, 100, 2)
	add(&h, 0, 1, 10, 1)
	add(&h, 0, 1, 1, 0)
	h.Pays[0].Seq, h.Pays[1].Seq, h.Pays[2].Seq = 0, 2, 1
	for has, most := range map[int]int{0: 0, 1: 1, 10: 1, 11: 2, 110: 2, 111: 3} {
		h.Accounts[0].Has = has
		for n := range 4 {
			check(t, "by class", h, n <= most, counts{n})
		}
	}
	h = houseOf([3]int{0, 1, 1}, [3]int{0, 1, 10})
	h.Pays[0].Seq, h.Pays[1].Seq = 1, 0
	h.Accounts[0].Has = 9
	check(t, "by place", h, false, counts{1})
}

func TestTogetherUsesCredit(t *testing.T) {
	h := pair(9, 4)
	h.Accounts[0].Credit = 5
	check(t, "just enough credit", h, true, counts{1, 1})
	h.Accounts[0].Credit = 4
	check(t, "one too few", h, false, counts{1, 1})
	h.Accounts[0] = api.Account{Has: -3, Credit: 8}
	check(t, "below 0, within its credit", h, true, counts{1, 1})
	h.Accounts[0].Has = -4
	check(t, "below its credit", h, false, counts{1, 1})
}

func TestTogetherUsesLimits(t *testing.T) {
	rich := func(h *api.House) { h.Accounts[0].Has, h.Accounts[1].Has = 100, 100 }
	h := with(pair(9, 4), rich)
	h.Limits[0][1] = 5
	check(t, "what comes back counts", h, true, counts{1, 1}, counts{0, 1})
	check(t, "what does not come back", h, false, counts{1, 0})
	h.Limits[0][1] = 4
	check(t, "one above the limit", h, false, counts{1, 1})
	h.Sent[1][0] = 1
	check(t, "what came before counts", h, true, counts{1, 1})
	h.Sent[0][1] = 1
	check(t, "what went before counts", h, false, counts{1, 1})
	h = with(pair(4, 4), rich)
	h.Limits[0][1] = 0
	check(t, "a limit of 0 is one", h, true, counts{1, 1})
	check(t, "a limit of 0 is one", h, false, counts{1, 0})
	h.Limits[0][1] = -1
	check(t, "-1 is none", h, true, counts{1, 0})
	h.Limits[1][0] = 0
	check(t, "the limit of the other bank", h, true, counts{1, 0}, counts{1, 1})
	check(t, "the limit of the other bank", h, false, counts{0, 1})
}

// All limits of a bank that pays are looked at, also those that its payments do not touch.
func TestTogetherUsesLimitsToBanksThatAreNotPaid(t *testing.T) {
	h := houseOf([3]int{0, 1, 1}, [3]int{3, 0, 2})
	h.Accounts[0].Has, h.Accounts[3].Has = 10, 10
	h.Sent[0][3], h.Limits[0][3] = 6, 5
	check(t, "exceeded to bank 3", h, false, counts{1, 0, 0, 0})
	check(t, "bank 3 sends something back", h, true, counts{1, 0, 0, 1}, counts{0, 0, 0, 1})
	if got := Most(h); got != (counts{1, 0, 0, 1}) {
		t.Errorf("%v", got)
	}
}

// A bank that pays nothing may be as poor as it is, and above its limits.
func TestTogetherIgnoresBanksThatDoNotPay(t *testing.T) {
	h := houseOf([3]int{0, 1, 1}, [3]int{1, 2, 1})
	h.Accounts[0].Has, h.Accounts[1].Has, h.Accounts[3].Has = 1, -50, -1<<40
	h.Sent[1][2], h.Limits[1][2] = 30, 0
	h.Sent[3][0], h.Limits[3][0] = 1<<40, 0
	check(t, "others", h, true, counts{}, counts{1})
	check(t, "others", h, false, counts{0, 1}, counts{1, 1})
	if got := Most(h); got != (counts{1}) {
		t.Errorf("%v", got)
	}
}

// The house is to be valid, not the one in which the payments are moved.
func TestTogetherBeyondTheBounds(t *testing.T) {
	h := houseOf([3]int{0, 1, 3}, [3]int{0, 1, 2})
	h.Accounts[0].Has, h.Accounts[1].Has, h.Sent[0][1] = 5, 1<<40, 1<<40
	check(t, "beyond 2^40", h, true, counts{2})
	x, done := Untie(h)
	if !slices.Equal(done, []int{0, 1}) || x.Accounts[1].Has != 1<<40+5 || x.Sent[0][1] != 1<<40+5 {
		t.Errorf("%v %+v", done, x)
	}
}

type mostCase struct {
	name string
	h    api.House
	want counts
}

func mostCases() []mostCase {
	long := append(ring().Pays, houseOf([3]int{0, 1, 5}, [3]int{1, 2, 5}, [3]int{2, 0, 4}).Pays...)
	for i := range long {
		long[i].Seq = i
	}
	rounds := with(ledger.New(), func(h *api.House) { h.Pays, h.Next = long, len(long) })
	return []mostCase{
		{"nothing to pay", ledger.New(), counts{}},
		{"the example", ring(), counts{1, 1, 1, 0}},
		{"one is owed less", pair(9, 8), counts{}},
		{"one is owed less, and has the rest", with(pair(9, 8), func(h *api.House) { h.Accounts[0].Has = 1 }), counts{1, 1}},
		{"two circles", houseOf([3]int{0, 2, 7}, [3]int{2, 0, 7}, [3]int{1, 3, 8}, [3]int{3, 1, 8}), counts{1, 1, 1, 1}},
		{"one of two circles", houseOf([3]int{0, 2, 7}, [3]int{2, 0, 6}, [3]int{1, 3, 8}, [3]int{3, 1, 8}), counts{0, 1, 0, 1}},
		{"a second round that fails", rounds, counts{1, 1, 1, 0}},
		{"a second round that is paid for", with(rounds, func(h *api.House) { h.Accounts[0].Has = 1 }), counts{2, 2, 2, 0}},
		{"a bank outside the ring pays too much", with(ring(), func(h *api.House) { add(h, 3, 0, 1, 0) }), counts{1, 1, 1, 0}},
		{"a bank of the ring owes more later", with(ring(), func(h *api.House) { add(h, 1, 3, 1, 0) }), counts{1, 1, 1, 0}},
		{"a bank of the ring owes more first", with(ring(), func(h *api.House) { add(h, 1, 3, 1, 0); h.Pays[1].Class = 1 }), counts{}},
		{"a limit within the ring", with(ring(), func(h *api.House) { h.Limits[1][2] = 8 }), counts{}},
		{"a limit that is kept", with(ring(), func(h *api.House) { h.Limits[1][2] = 9 }), counts{1, 1, 1, 0}},
		{"payable alone", with(houseOf([3]int{3, 1, 2}), func(h *api.House) { h.Accounts[3].Has = 2 }), counts{0, 0, 0, 1}},
		{"a smaller later payment fits, but not the first", with(houseOf([3]int{3, 1, 2}, [3]int{3, 1, 1}), func(h *api.House) { h.Accounts[3].Has = 1 }), counts{}},
		{"both do not fit, the first does", with(houseOf([3]int{3, 1, 2}, [3]int{3, 1, 1}), func(h *api.House) { h.Accounts[3].Has = 2 }), counts{0, 0, 0, 1}},
		{"one alone does not fit, both together do", houseOf([3]int{0, 1, 5}, [3]int{0, 2, 1}, [3]int{1, 2, 5}, [3]int{2, 0, 6}), counts{2, 1, 1, 0}},
	}
}

func TestMost(t *testing.T) {
	for _, c := range mostCases() {
		got := Most(c.h)
		if got != c.want {
			t.Errorf("%s: %v, want %v", c.name, got, c.want)
		}
		check(t, c.name, c.h, true, got)
	}
}

// All payments that a house may have go around, and all of them are needed.
func TestMostOfAFullHouse(t *testing.T) {
	h := ledger.New()
	for i := range api.MaxPays {
		add(&h, i%api.Banks, (i+1)%api.Banks, api.MaxAmount, i%(api.MaxClass+1))
	}
	each := api.MaxPays / api.Banks
	if got := Most(h); got != (counts{each, each, each, each}) {
		t.Errorf("%v", got)
	}
	h.Pays[api.MaxPays-1].State = api.Gone
	if got := Most(h); got != (counts{each - 1, each - 1, each - 1, each - 1}) {
		t.Errorf("one is gone: %v", got)
	}
	h.Accounts[2].Has = -1
	if got := Most(h); got != (counts{}) {
		t.Errorf("one bank cannot pay: %v", got)
	}
}

func TestUntieOfARing(t *testing.T) {
	h := ring()
	x, done := Untie(h)
	if !slices.Equal(done, []int{0, 1, 2}) {
		t.Errorf("%v", done)
	}
	want := copyOf(h)
	want.Sent[0][1], want.Sent[1][2], want.Sent[2][0] = 9, 9, 9
	for i := range want.Pays {
		want.Pays[i].State = api.Done
	}
	if !reflect.DeepEqual(x, want) {
		t.Errorf("%+v, want %+v", x, want)
	}
}

// The order is by bank, and within a bank that of its queue, whatever the payments' numbers are.
func TestUntieOrder(t *testing.T) {
	h := ledger.New()
	add(&h, 3, 2, 5, 0)
	add(&h, 2, 0, 3, 2)
	add(&h, 2, 1, 2, 1)
	add(&h, 1, 0, 1, 1)
	add(&h, 1, 0, 1, 0)
	add(&h, 0, 3, 5, 2)
	add(&h, 0, 3, 1, 2)
	h.Pays[1].Class, h.Pays[2].Class = 1, 1
	h.Pays[1].Seq, h.Pays[2].Seq = 2, 1
	x, done := Untie(h)
	if !slices.Equal(done, []int{5, 4, 3, 2, 1, 0}) {
		t.Errorf("%v", done)
	}
	if x.Pays[6].State != api.Queued || x.Accounts != h.Accounts {
		t.Errorf("%+v", x)
	}
}

func TestUntieOfNothingPossible(t *testing.T) {
	for _, h := range []api.House{ledger.New(), pair(9, 8), houseOf([3]int{0, 1, 1})} {
		x, done := Untie(h)
		if len(done) != 0 || !reflect.DeepEqual(x, h) {
			t.Errorf("%v %+v, want %+v", done, x, h)
		}
	}
}

// invalidHouses could settle all payments if they were valid.
func invalidHouses() []api.House {
	var l []api.House
	for _, change := range []func(h *api.House){
		func(h *api.House) { h.Next = -1 },
		func(h *api.House) { h.Next = 2 },
		func(h *api.House) { h.Next = 1<<20 + 1 },
		func(h *api.House) { h.Pays[1].Seq = 0 },
		func(h *api.House) { h.Pays[1].To = h.Pays[1].From },
		func(h *api.House) { h.Pays[1].To = api.Banks },
		func(h *api.House) { h.Pays[1].From = -1 },
		func(h *api.House) { h.Pays[1].Amount = 0 },
		func(h *api.House) { h.Pays[1].State = 0 },
		func(h *api.House) { h.Pays[1].Class = api.MaxClass + 1 },
		func(h *api.House) { h.Accounts[3].Has = 1<<40 + 1 },
		func(h *api.House) { h.Accounts[3].Credit = -1 },
		func(h *api.House) { h.Sent[2][2] = 1 },
		func(h *api.House) { h.Limits[2][3] = -2 },
		func(h *api.House) {
			for len(h.Pays) <= api.MaxPays {
				add(h, 0, 1, 1, 0)
			}
		},
	} {
		h := ring()
		for i := range api.Banks {
			h.Accounts[i].Has = 100
		}
		change(&h)
		l = append(l, h)
	}
	return l
}

func TestInvalidHouses(t *testing.T) {
	for i, h := range invalidHouses() {
		for _, n := range []counts{{}, {1}, {1, 1, 1, 0}} {
			if Together(h, n) {
				t.Errorf("%d: Together(%v) is true", i, n)
			}
		}
		if got := Most(h); got != (counts{}) {
			t.Errorf("%d: Most is %v", i, got)
		}
		if x, done := Untie(h); len(done) != 0 || !reflect.DeepEqual(x, h) {
			t.Errorf("%d: %v %+v, want %+v", i, done, x, h)
		}
	}
}

// randomHouse is valid, and tight enough that few of its payments are possible alone.
func randomHouse(r *rand.Rand) api.House {
	h := ledger.New()
	for i := range api.Banks {
		h.Accounts[i] = api.Account{Has: r.Intn(7) - 2, Credit: r.Intn(4)}
		for k := range api.Banks {
			if i != k {
				h.Sent[i][k] = r.Intn(6)
			}
			h.Limits[i][k] = max(-1, r.Intn(24)-8)
		}
	}
	for range r.Intn(15) {
		from := r.Intn(api.Banks)
		to := (from + 1 + r.Intn(api.Banks-1)) % api.Banks
		add(&h, from, to, 1+r.Intn(9), r.Intn(api.MaxClass+1))
		h.Pays[len(h.Pays)-1].State = []int{api.Queued, api.Queued, api.Queued, api.Queued, api.Done, api.Gone}[r.Intn(6)]
	}
	r.Shuffle(len(h.Pays), func(i, k int) { h.Pays[i], h.Pays[k] = h.Pays[k], h.Pays[i] })
	return h
}

// plainQueue is the queued payments of a bank, without the functions of the program.
func plainQueue(h api.House, bank int) []int {
	var l []int
	for class := range api.MaxClass + 1 {
		for seq := range h.Next {
			for n, p := range h.Pays {
				if p.From == bank && p.State == api.Queued && p.Class == class && p.Seq == seq {
					l = append(l, n)
				}
			}
		}
	}
	return l
}

// plainTogether does literally what P3.1 says of a valid house and numbers that are not too great.
func plainTogether(h api.House, queues [api.Banks][]int, n counts) bool {
	for i, l := range queues {
		for _, pay := range l[:n[i]] {
			p := h.Pays[pay]
			h.Accounts[p.From].Has -= p.Amount
			h.Accounts[p.To].Has += p.Amount
			h.Sent[p.From][p.To] += p.Amount
		}
	}
	for i := range api.Banks {
		if n[i] == 0 {
			continue
		}
		if h.Accounts[i].Has+h.Accounts[i].Credit < 0 {
			return false
		}
		for k := range api.Banks {
			if k != i && h.Limits[i][k] != -1 && h.Sent[i][k]-h.Sent[k][i] > h.Limits[i][k] {
				return false
			}
		}
	}
	return true
}

// allCounts is every n that takes no more than each queue has.
func allCounts(queues [api.Banks][]int) []counts {
	all := []counts{{}}
	for i, l := range queues {
		for _, n := range slices.Clone(all) {
			for count := 1; count <= len(l); count++ {
				n[i] = count
				all = append(all, n)
			}
		}
	}
	return all
}

func TestManyHouses(t *testing.T) {
	r := rand.New(rand.NewSource(1))
	settled, jointly := 0, 0
	for range 3000 {
		h := randomHouse(r)
		before := copyOf(h)
		var queues [api.Banks][]int
		for i := range queues {
			queues[i] = plainQueue(h, i)
		}
		var most counts
		for _, n := range allCounts(queues) {
			want := plainTogether(h, queues, n)
			if got := Together(h, n); got != want {
				t.Fatalf("Together(%+v, %v) = %v", h, n, got)
			}
			for i := range n {
				if want {
					most[i] = max(most[i], n[i])
				}
			}
		}
		if got := Most(h); got != most {
			t.Fatalf("Most(%+v) = %v, want %v", h, got, most)
		}
		checkUntie(t, h, queues, most)
		if !reflect.DeepEqual(h, before) {
			t.Fatalf("the argument is changed: %+v", before)
		}
		if most != (counts{}) {
			settled++
		}
		// Bank 0 stands for all banks here.
		if !plainTogether(h, queues, counts{most[0]}) {
			jointly++
		}
	}
	if settled < 300 || jointly < 100 {
		t.Errorf("the houses are too plain: %d with settled payments, %d with payments that bank 0 cannot make alone", settled, jointly)
	}
}

// checkUntie compares Untie with a literal reading of P3.3.
func checkUntie(t *testing.T, h api.House, queues [api.Banks][]int, most counts) {
	t.Helper()
	want := copyOf(h)
	var wantDone []int
	for i, l := range queues {
		for _, pay := range l[:most[i]] {
			p := &want.Pays[pay]
			want.Accounts[p.From].Has -= p.Amount
			want.Accounts[p.To].Has += p.Amount
			want.Sent[p.From][p.To] += p.Amount
			p.State = api.Done
			wantDone = append(wantDone, pay)
		}
	}
	x, done := Untie(h)
	if !slices.Equal(done, wantDone) || !reflect.DeepEqual(x, want) {
		t.Fatalf("Untie(%+v)\n= %+v %v\nwant %+v %v", h, x, done, want, wantDone)
	}
	if y, more := Untie(x); len(more) != 0 || !reflect.DeepEqual(y, x) {
		t.Fatalf("a second Untie settles %v of %+v", more, x)
	}
}

func TestListsAreNotModified(t *testing.T) {
	for spare := range 3 {
		whole := slices.Grow(ring().Pays, spare)
		whole = whole[:cap(whole)]
		before := slices.Clone(whole)
		h := ring()
		h.Pays = whole[:len(h.Pays)]
		Together(h, counts{1, 1, 1, 0})
		Most(h)
		if _, done := Untie(h); len(done) != 3 {
			t.Errorf("%v", done)
		}
		if !slices.Equal(whole, before) {
			t.Errorf("%+v", whole)
		}
	}
}

func TestNothingPanics(t *testing.T) {
	wild := ring()
	wild.Accounts[0] = api.Account{Has: math.MaxInt, Credit: math.MaxInt}
	wild.Sent[0][1], wild.Sent[1][0] = math.MaxInt, math.MinInt
	wild.Next = math.MinInt
	for _, p := range []api.Pay{{}, {From: -1, To: api.Banks}, {From: math.MaxInt, To: math.MinInt, Amount: math.MinInt}} {
		p.State = api.Queued
		wild.Pays = append(wild.Pays, p)
	}
	long := ledger.New()
	long.Pays = make([]api.Pay, 1000)
	for _, h := range append(invalidHouses(), api.House{}, ledger.New(), ring(), wild, long) {
		Most(h)
		Untie(h)
		for _, n := range []int{math.MinInt, -1, 0, 1, api.MaxPays, math.MaxInt} {
			Together(h, counts{n, n, n, n})
			Together(h, counts{0, 0, 0, n})
		}
	}
}
