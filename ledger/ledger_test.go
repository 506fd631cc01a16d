package ledger

import (
	"math"
	"reflect"
	"slices"
	"testing"

	"quittance/api"
)

// sample has a different number in every place, so that a mixed-up index shows.
func sample() api.House {
	h := New()
	for i := range api.Banks {
		h.Accounts[i] = api.Account{Has: 1000 * (i + 1), Credit: 10 * (i + 1)}
		for k := range api.Banks {
			if i != k {
				h.Sent[i][k] = 100*i + 7*k + 1
			}
		}
	}
	h.Pays = []api.Pay{
		{From: 0, To: 1, Amount: 5, Class: 0, State: api.Queued, Seq: 3},
		{From: 2, To: 3, Amount: 6, Class: 2, State: api.Done, Seq: 0},
	}
	h.Next = 4
	return h
}

// houseOfPays has n valid payments with the places 0 to n - 1.
func houseOfPays(n int) api.House {
	h := New()
	for i := range n {
		h.Pays = append(h.Pays, api.Pay{From: 0, To: 1, Amount: 1, State: api.Queued, Seq: i})
	}
	h.Next = n
	return h
}

func TestNew(t *testing.T) {
	h := New()
	for i := range api.Banks {
		if h.Accounts[i] != (api.Account{}) {
			t.Errorf("account %d: %+v", i, h.Accounts[i])
		}
		for k := range api.Banks {
			if h.Sent[i][k] != 0 || h.Limits[i][k] != -1 {
				t.Errorf("%d to %d: sent %d, limit %d", i, k, h.Sent[i][k], h.Limits[i][k])
			}
		}
	}
	if len(h.Pays) != 0 || h.Next != 0 {
		t.Errorf("%+v", h)
	}
}

func TestNewHousesAreIndependent(t *testing.T) {
	h := New()
	h.Limits[0][1] = 5
	if New().Limits[0][1] != -1 {
		t.Error("a change of one new house shows in another")
	}
}

func TestGoodPay(t *testing.T) {
	type change struct {
		name string
		f    func(p *api.Pay)
		want bool
	}
	for _, c := range []change{
		{"as it is", func(p *api.Pay) {}, true},
		{"from first bank", func(p *api.Pay) { p.From = 0 }, true},
		{"from last bank", func(p *api.Pay) { p.From = api.Banks - 1 }, true},
		{"from below", func(p *api.Pay) { p.From = -1 }, false},
		{"from above", func(p *api.Pay) { p.From = api.Banks }, false},
		{"to first bank", func(p *api.Pay) { p.To = 0 }, true},
		{"to last bank", func(p *api.Pay) { p.To = api.Banks - 1 }, true},
		{"to below", func(p *api.Pay) { p.To = -1 }, false},
		{"to above", func(p *api.Pay) { p.To = api.Banks }, false},
		{"to itself", func(p *api.Pay) { p.To = p.From }, false},
		{"amount 1", func(p *api.Pay) { p.Amount = 1 }, true},
		{"amount 0", func(p *api.Pay) { p.Amount = 0 }, false},
		{"amount negative", func(p *api.Pay) { p.Amount = -1 }, false},
		{"amount greatest", func(p *api.Pay) { p.Amount = api.MaxAmount }, true},
		{"amount too great", func(p *api.Pay) { p.Amount = api.MaxAmount + 1 }, false},
		{"class 0", func(p *api.Pay) { p.Class = 0 }, true},
		{"class greatest", func(p *api.Pay) { p.Class = api.MaxClass }, true},
		{"class negative", func(p *api.Pay) { p.Class = -1 }, false},
		{"class too great", func(p *api.Pay) { p.Class = api.MaxClass + 1 }, false},
		{"queued", func(p *api.Pay) { p.State = api.Queued }, true},
		{"done", func(p *api.Pay) { p.State = api.Done }, true},
		{"gone", func(p *api.Pay) { p.State = api.Gone }, true},
		{"state 0", func(p *api.Pay) { p.State = 0 }, false},
		{"state 4", func(p *api.Pay) { p.State = 4 }, false},
		{"state negative", func(p *api.Pay) { p.State = -1 }, false},
		{"seq 0", func(p *api.Pay) { p.Seq = 0 }, true},
		{"seq greatest", func(p *api.Pay) { p.Seq = math.MaxInt }, true},
		{"seq negative", func(p *api.Pay) { p.Seq = -1 }, false},
		{"zero value", func(p *api.Pay) { *p = api.Pay{} }, false},
	} {
		p := api.Pay{From: 1, To: 2, Amount: 3, Class: 1, State: api.Queued, Seq: 7}
		c.f(&p)
		if GoodPay(p) != c.want {
			t.Errorf("%s: %+v: want %v", c.name, p, c.want)
		}
	}
}

func TestGoodOfWholeHouses(t *testing.T) {
	if !Good(New()) || !Good(sample()) {
		t.Error("a valid house is rejected")
	}
	// The limits of the zero house are 0, which is a limit like any other.
	if !Good(api.House{}) {
		t.Error("the zero house is rejected")
	}
	h := New()
	h.Pays = []api.Pay{}
	if !Good(h) {
		t.Error("an empty list is rejected")
	}
}

func TestGoodPayments(t *testing.T) {
	if !Good(houseOfPays(api.MaxPays)) {
		t.Error("MaxPays payments are rejected")
	}
	if Good(houseOfPays(api.MaxPays + 1)) {
		t.Error("more than MaxPays payments are accepted")
	}
	for n := range api.MaxPays {
		h := houseOfPays(api.MaxPays)
		h.Pays[n].Amount = 0
		if Good(h) {
			t.Errorf("payment %d is invalid", n)
		}
	}
	for _, state := range []int{api.Queued, api.Done, api.Gone} {
		h := houseOfPays(3)
		h.Pays[1].State = state
		if !Good(h) {
			t.Errorf("state %d is rejected", state)
		}
	}
}

func TestGoodSeq(t *testing.T) {
	h := houseOfPays(3)
	slices.Reverse(h.Pays)
	if !Good(h) {
		t.Error("places in any order are valid")
	}
	for i := range 3 {
		for k := range 3 {
			h := houseOfPays(3)
			h.Pays[i].Seq = h.Pays[k].Seq
			if Good(h) != (i == k) {
				t.Errorf("payments %d and %d have one place", i, k)
			}
		}
	}
	h = houseOfPays(2)
	h.Pays[0].Seq = 1
	h.Pays[0].State = api.Gone
	if Good(h) {
		t.Error("payments of different states have one place")
	}
	h = houseOfPays(2)
	h.Pays[0].Seq = 2
	if Good(h) {
		t.Error("a place equal to Next is accepted")
	}
	h.Next = 3
	if !Good(h) {
		t.Error("a place less than Next is rejected")
	}
}

// numberCase says which numbers a place in a house may hold.
type numberCase struct {
	name      string
	set       func(h *api.House, n int)
	low, high int
}

func numberCases() []numberCase {
	l := []numberCase{{"Next", func(h *api.House, n int) { h.Next = n }, 0, 1 << 20}}
	for i := range api.Banks {
		l = append(l,
			numberCase{"Has", func(h *api.House, n int) { h.Accounts[i].Has = n }, -1 << 40, 1 << 40},
			numberCase{"Credit", func(h *api.House, n int) { h.Accounts[i].Credit = n }, 0, api.MaxAmount})
		for k := range api.Banks {
			most := 1 << 40
			if i == k {
				most = 0
			}
			l = append(l,
				numberCase{"Sent", func(h *api.House, n int) { h.Sent[i][k] = n }, 0, most},
				numberCase{"Limits", func(h *api.House, n int) { h.Limits[i][k] = n }, -1, api.MaxAmount})
		}
	}
	return l
}

func TestGoodNumbers(t *testing.T) {
	for _, c := range numberCases() {
		for _, n := range []int{math.MinInt, c.low - 1, c.low, c.high, c.high + 1, math.MaxInt} {
			h := New()
			c.set(&h, n)
			want := c.low <= n && n <= c.high
			if Good(h) != want {
				t.Errorf("%s %d: want %v in %+v", c.name, n, want, h)
			}
		}
	}
}

func TestNet(t *testing.T) {
	h := sample()
	for i := range api.Banks {
		for k := range api.Banks {
			if got, want := Net(h, i, k), h.Sent[i][k]-h.Sent[k][i]; got != want {
				t.Errorf("Net(%d, %d) = %d, want %d", i, k, got, want)
			}
		}
	}
	h = New()
	h.Sent[1][3], h.Sent[3][1] = 10, 4
	if Net(h, 1, 3) != 6 || Net(h, 3, 1) != -6 || Net(h, 1, 2) != 0 {
		t.Error("the net amounts of banks 1 and 3")
	}
}

func TestLeft(t *testing.T) {
	h := New()
	h.Accounts = [api.Banks]api.Account{{Has: 5, Credit: 4}, {Has: -3, Credit: 4}, {Has: -9, Credit: 4}, {Has: 1 << 40, Credit: api.MaxAmount}}
	for i, want := range []int{9, 1, -5, 1<<40 + api.MaxAmount} {
		if Left(h, i) != want {
			t.Errorf("Left(%d) = %d, want %d", i, Left(h, i), want)
		}
	}
}

func TestSum(t *testing.T) {
	h := New()
	if Sum(h) != 0 {
		t.Error("a new house has something")
	}
	for i, has := range []int{1, 20, 300, -4000} {
		h.Accounts[i] = api.Account{Has: has, Credit: 50000}
	}
	if Sum(h) != 321-4000 {
		t.Errorf("Sum = %d", Sum(h))
	}
}

func TestMayFunds(t *testing.T) {
	h := New()
	h.Accounts[2] = api.Account{Has: 5, Credit: 4}
	h.Accounts[3] = api.Account{Has: -3, Credit: 3}
	for _, c := range []struct {
		from, to, amount int
		want             bool
	}{
		{2, 0, 1, true}, {2, 0, 9, true}, {2, 0, 10, false},
		{2, 1, 9, true}, {2, 3, 9, true},
		{3, 2, 1, false}, {0, 2, 1, false},
	} {
		if May(h, c.from, c.to, c.amount) != c.want {
			t.Errorf("%+v", c)
		}
	}
}

func TestMayLimits(t *testing.T) {
	for _, c := range []struct {
		limit, sent, back, amount int
		want                      bool
	}{
		{-1, 1 << 40, 0, api.MaxAmount, true},
		{0, 0, 0, 1, false},
		{0, 0, 3, 3, true},
		{0, 0, 3, 4, false},
		{6, 0, 0, 6, true},
		{6, 0, 0, 7, false},
		{6, 4, 0, 2, true},
		{6, 4, 0, 3, false},
		{6, 4, 3, 5, true},
		{6, 4, 3, 6, false},
		{6, 9, 0, 1, false},
		{api.MaxAmount, 0, 0, api.MaxAmount, true},
		{api.MaxAmount, 1, 0, api.MaxAmount, false},
	} {
		h := New()
		h.Accounts[1].Has = 1 << 40
		h.Limits[1][3], h.Sent[1][3], h.Sent[3][1] = c.limit, c.sent, c.back
		if May(h, 1, 3, c.amount) != c.want {
			t.Errorf("%+v", c)
		}
	}
}

func TestMayLimitIsOfOneDirection(t *testing.T) {
	h := New()
	h.Accounts[0].Has, h.Accounts[1].Has = 10, 10
	h.Limits[0][1] = 0
	if May(h, 0, 1, 1) || !May(h, 1, 0, 10) || !May(h, 0, 2, 10) {
		t.Error("the limit of 0 to 1 is not that of others")
	}
}

// badTransfers are the arguments that are no transfer at all.
func badTransfers() [][3]int {
	return [][3]int{
		{0, 0, 1}, {3, 3, 1},
		{-1, 1, 1}, {api.Banks, 1, 1}, {1, -1, 1}, {1, api.Banks, 1},
		{-1, -1, 1}, {api.Banks, api.Banks + 1, 1},
		{math.MinInt, 1, 1}, {1, math.MaxInt, 1},
		{0, 1, 0}, {0, 1, -1}, {0, 1, api.MaxAmount + 1},
		{0, 1, math.MinInt}, {0, 1, math.MaxInt},
	}
}

func TestMayRejectsWhatIsNoTransfer(t *testing.T) {
	h := New()
	for i := range h.Accounts {
		h.Accounts[i].Has = 1 << 40
	}
	for _, c := range badTransfers() {
		if May(h, c[0], c[1], c[2]) {
			t.Errorf("%v", c)
		}
	}
	if !May(h, 0, 1, 1) || !May(h, 3, 0, api.MaxAmount) {
		t.Error("the bounds are possible")
	}
}

func TestMove(t *testing.T) {
	for from := range api.Banks {
		for to := range api.Banks {
			for _, amount := range []int{1, 50, api.MaxAmount} {
				if from == to {
					continue
				}
				want := sample()
				want.Accounts[from].Has -= amount
				want.Accounts[to].Has += amount
				want.Sent[from][to] += amount
				h := sample()
				if got := Move(h, from, to, amount); !reflect.DeepEqual(got, want) {
					t.Errorf("%d to %d: %+v, want %+v", from, to, got, want)
				}
				if !reflect.DeepEqual(h, sample()) {
					t.Errorf("%d to %d: the argument is changed", from, to)
				}
			}
		}
	}
}

func TestMoveIgnoresFundsAndLimits(t *testing.T) {
	h := New()
	h.Limits[0][1] = 0
	x := Move(h, 0, 1, 7)
	if x.Accounts[0].Has != -7 || x.Accounts[1].Has != 7 || x.Sent[0][1] != 7 {
		t.Errorf("%+v", x)
	}
}

func TestMoveKeepsTheSum(t *testing.T) {
	h := sample()
	if Sum(Move(h, 2, 0, 77)) != Sum(h) {
		t.Error("money is lost or made")
	}
}

func TestMoveOfNoTransferChangesNothing(t *testing.T) {
	for _, c := range badTransfers() {
		if got := Move(sample(), c[0], c[1], c[2]); !reflect.DeepEqual(got, sample()) {
			t.Errorf("%v: %+v", c, got)
		}
	}
}

func TestListsAreNotModified(t *testing.T) {
	whole := append(sample().Pays, api.Pay{From: 9, Seq: 99})
	before := slices.Clone(whole)
	h := sample()
	h.Pays = whole[:2]
	Good(h)
	May(h, 0, 1, 1)
	Move(h, 0, 1, 1)
	if !slices.Equal(whole, before) {
		t.Errorf("%+v", whole)
	}
}

func TestNothingPanics(t *testing.T) {
	wild := sample()
	wild.Accounts[0] = api.Account{Has: math.MaxInt, Credit: math.MaxInt}
	wild.Accounts[1] = api.Account{Has: math.MinInt, Credit: math.MinInt}
	wild.Sent[0][1], wild.Sent[1][0] = math.MaxInt, math.MinInt
	wild.Limits[0][1] = math.MinInt
	wild.Pays = make([]api.Pay, 1000)
	wild.Next = math.MinInt
	numbers := []int{math.MinInt, -1, 0, 1, api.Banks - 1, api.Banks, math.MaxInt}
	for _, h := range []api.House{{}, New(), wild} {
		Good(h)
		Sum(h)
		for _, i := range numbers {
			Left(h, i)
			for _, k := range numbers {
				Net(h, i, k)
				for _, amount := range numbers {
					May(h, i, k, amount)
					Move(h, i, k, amount)
				}
			}
		}
	}
}
