// Package ledger: see ../../shared/doc/01-ledger.md.
package ledger

import "quittance/api"

const (
	maxHeld = 1 << 40 // bound of Has, in both directions, and of Sent
	maxNext = 1 << 20
	noLimit = -1
)

// New is a house in which nobody has anything.
func New() api.House {
	var h api.House
	for i := range h.Limits {
		for k := range h.Limits[i] {
			h.Limits[i][k] = noLimit
		}
	}
	return h
}

// GoodPay is whether a payment may be one.
func GoodPay(p api.Pay) bool {
	return goodTransfer(p.From, p.To, p.Amount) &&
		within(p.Class, 0, api.MaxClass) &&
		goodState(p.State) &&
		p.Seq >= 0
}

// Good is whether a house is one.
func Good(h api.House) bool {
	return within(h.Next, 0, maxNext) &&
		goodPays(h.Pays, h.Next) &&
		goodAccounts(h.Accounts) &&
		goodSent(h.Sent) &&
		goodLimits(h.Limits)
}

// Net is how much more a bank has sent to another one than it was sent.
// It is 0 for a bank that does not exist, because no call may panic.
func Net(h api.House, i, k int) int {
	if !isBank(i) || !isBank(k) {
		return 0
	}
	return h.Sent[i][k] - h.Sent[k][i]
}

// Left is what a bank may send yet: what it has, and its credit.
// It is 0 for a bank that does not exist, because no call may panic.
func Left(h api.House, i int) int {
	if !isBank(i) {
		return 0
	}
	return h.Accounts[i].Has + h.Accounts[i].Credit
}

// May is whether a bank may send a sum now.
func May(h api.House, from, to, amount int) bool {
	if !goodTransfer(from, to, amount) || Left(h, from) < amount {
		return false
	}
	limit := h.Limits[from][to]
	return limit == noLimit || Net(h, from, to)+amount <= limit
}

// Move is a house in which a sum was sent, whether it may be or not.
func Move(h api.House, from, to, amount int) api.House {
	if !goodTransfer(from, to, amount) {
		return h
	}
	h.Accounts[from].Has -= amount
	h.Accounts[to].Has += amount
	h.Sent[from][to] += amount
	return h
}

// Sum is what all have together.
func Sum(h api.House) int {
	sum := 0
	for _, a := range h.Accounts {
		sum += a.Has
	}
	return sum
}

func within(n, low, high int) bool {
	return low <= n && n <= high
}

func isBank(i int) bool {
	return within(i, 0, api.Banks-1)
}

func goodTransfer(from, to, amount int) bool {
	return isBank(from) && isBank(to) && from != to && within(amount, 1, api.MaxAmount)
}

func goodState(state int) bool {
	return state == api.Queued || state == api.Done || state == api.Gone
}

func goodPays(pays []api.Pay, next int) bool {
	if len(pays) > api.MaxPays {
		return false
	}
	seen := map[int]bool{}
	for _, p := range pays {
		if !GoodPay(p) || p.Seq >= next || seen[p.Seq] {
			return false
		}
		seen[p.Seq] = true
	}
	return true
}

func goodAccounts(accounts [api.Banks]api.Account) bool {
	for _, a := range accounts {
		if !within(a.Has, -maxHeld, maxHeld) || !within(a.Credit, 0, api.MaxAmount) {
			return false
		}
	}
	return true
}

func goodSent(sent [api.Banks][api.Banks]int) bool {
	for i, row := range sent {
		if row[i] != 0 {
			return false
		}
		for _, n := range row {
			if !within(n, 0, maxHeld) {
				return false
			}
		}
	}
	return true
}

func goodLimits(limits [api.Banks][api.Banks]int) bool {
	for _, row := range limits {
		for _, n := range row {
			if !within(n, noLimit, api.MaxAmount) {
				return false
			}
		}
	}
	return true
}
