package book

import (
	"math"
	"math/big"
	"math/rand"
	"slices"
	"strings"
	"testing"

	"quittance/api"
)

const bound = 1 << 30

// act is an act with these fields, in the order in which they are written.
func act(kind, a, b, c, n int) api.Act {
	return api.Act{Kind: kind, A: a, B: b, C: c, N: n}
}

// withField is an act whose field i, in the order in which they are written, is n; the others are their own.
func withField(a api.Act, i, n int) api.Act {
	*[]*int{&a.Kind, &a.A, &a.B, &a.C, &a.N}[i] = n
	return a
}

// frame is the frame of a valid act.
func frame(t *testing.T, a api.Act) string {
	t.Helper()
	s, err := Frame(a)
	if err != api.OK {
		t.Fatalf("Frame(%+v): error %d", a, err)
	}
	return s
}

// frames is the frames of valid acts, one after the other.
func frames(t *testing.T, acts ...api.Act) string {
	t.Helper()
	var s strings.Builder
	for _, a := range acts {
		s.WriteString(frame(t, a))
	}
	return s.String()
}

// wrap is bytes with their length before and their checksum behind them, whether they are fields or not.
// The remainders are taken at each step here, so that the sums are not computed as in the program.
func wrap(body string) string {
	a, b := 1, 0
	for _, c := range []byte(body) {
		a = (a + int(c)) % 251
		b = (b + a) % 251
	}
	return string([]byte{byte(len(body))}) + body + string([]byte{byte(a), byte(b)})
}

// digits is a number in base 128 as the chapter says, with so many zero digits more than necessary.
func digits(code *big.Int, more int) string {
	var l []byte
	rest, digit := new(big.Int).Set(code), new(big.Int)
	for {
		rest.DivMod(rest, big.NewInt(128), digit)
		l = append(l, byte(digit.Int64()))
		if rest.Sign() == 0 {
			break
		}
	}
	l = append(l, make([]byte, more)...)
	for i := range len(l) - 1 {
		l[i] += 128
	}
	return string(l)
}

// field is a field as the chapter says, for all numbers, also those that no frame may have.
func field(n int) string {
	code := new(big.Int).Mul(big.NewInt(2), big.NewInt(int64(n)))
	if n < 0 {
		code.Neg(code)
		code.Sub(code, big.NewInt(1))
	}
	return digits(code, 0)
}

// literalFrame is a frame as the chapter says, for all numbers.
func literalFrame(a api.Act) string {
	return wrap(field(a.Kind) + field(a.A) + field(a.B) + field(a.C) + field(a.N))
}

// literalField is the field at the start of bytes and its length; false if there is none as short as possible and within the bounds.
func literalField(s string) (int, int, bool) {
	end := slices.IndexFunc([]byte(s), func(c byte) bool { return c < 128 })
	if end < 0 || end > 0 && s[end] == 0 {
		return 0, 0, false
	}
	code := new(big.Int)
	for i := end; i >= 0; i-- {
		code.Mul(code, big.NewInt(128))
		code.Add(code, big.NewInt(int64(s[i]%128)))
	}
	if code.Cmp(big.NewInt(2*bound)) > 0 {
		return 0, 0, false
	}
	n := int(code.Int64())
	if n%2 == 0 {
		return n / 2, end + 1, true
	}
	return -(n / 2) - 1, end + 1, true
}

// literalAct is the act of the frame at the start of a string and the length of this frame; false if there is none.
// Unlike the program, it checks each part of the frame by itself.
func literalAct(s string) (api.Act, int, bool) {
	if s == "" || len(s) < int(s[0])+3 {
		return api.Act{}, 0, false
	}
	whole := s[:int(s[0])+3]
	body := whole[1 : len(whole)-2]
	if wrap(body) != whole {
		return api.Act{}, 0, false
	}
	var a api.Act
	for i := range 5 {
		n, size, ok := literalField(body)
		if !ok {
			return api.Act{}, 0, false
		}
		a = withField(a, i, n)
		body = body[size:]
	}
	return a, len(whole), body == ""
}

// literalRead is Read as the chapter says.
func literalRead(s string) ([]api.Act, int) {
	var acts []api.Act
	size := 0
	for {
		a, n, ok := literalAct(s[size:])
		if !ok {
			return acts, size
		}
		acts = append(acts, a)
		size += n
	}
}

// checkRead compares both results of Read.
func checkRead(t *testing.T, name, s string, size int, acts ...api.Act) {
	t.Helper()
	got, n := Read(s)
	if !slices.Equal(got, acts) || n != size {
		t.Errorf("%s: Read(%q) = %+v, %d; want %+v, %d", name, s, got, n, acts, size)
	}
}

// checkNone expects that a string does not begin with a frame, alone and with a frame before and behind it.
func checkNone(t *testing.T, name, s string) {
	t.Helper()
	checkRead(t, name, s, 0)
	a := act(api.ActPay, 0, 1, 2, 100)
	f := frame(t, a)
	checkRead(t, name+", behind a frame", f+s, len(f), a)
	checkRead(t, name+", between frames", f+s+f, len(f), a)
}

// edges is the numbers at which an encoded field gets longer, and the bounds.
func edges() []int {
	l := []int{0, 1, 2, 63, 64, 65, 8191, 8192, 1<<20 - 1, 1 << 20, 1<<27 - 1, 1 << 27, bound - 1, bound}
	for _, n := range slices.Clone(l) {
		l = append(l, -n, -n-1)
	}
	return slices.DeleteFunc(l, func(n int) bool { return n < -bound })
}

// outside is numbers beyond the bounds, among them those whose lowest bits are those of valid ones.
func outside() []int {
	return []int{
		bound + 1, -bound - 1, 1 << 31, -1 << 31, 1<<32 + 5, -1<<32 - 5, 1<<33 - 1,
		1 << 34, -1 << 34, 1 << 35, 1 << 62, -1 << 62, math.MaxInt - 1, math.MaxInt, math.MinInt + 1, math.MinInt,
	}
}

// randomField is a number within the bounds; all lengths are about equally frequent.
func randomField(r *rand.Rand) int {
	n := r.Intn(bound+1) >> r.Intn(31)
	if r.Intn(2) == 0 {
		return -n
	}
	return n
}

func randomAct(r *rand.Rand) api.Act {
	return act(randomField(r), randomField(r), randomField(r), randomField(r), randomField(r))
}

func TestGood(t *testing.T) {
	if !Good(api.Act{}) || !Good(act(api.ActPay, 0, 1, 2, 100)) || !Good(act(-7, 99, -99, 12345, -1)) {
		t.Error("a valid act is rejected")
	}
	if !Good(act(bound, -bound, bound, -bound, bound)) {
		t.Error("the bounds are rejected")
	}
	for i := range 5 {
		for _, n := range edges() {
			if a := withField(api.Act{}, i, n); !Good(a) {
				t.Errorf("%+v is rejected", a)
			}
		}
		for _, n := range outside() {
			if a := withField(act(1, 2, 3, 4, 5), i, n); Good(a) {
				t.Errorf("%+v is accepted", a)
			}
		}
	}
}

func TestFrameBytes(t *testing.T) {
	type example struct {
		a    api.Act
		want string
	}
	for _, e := range []example{
		{api.Act{}, "\x05\x00\x00\x00\x00\x00\x01\x05"},
		{act(0, 0, 0, 0, 1), "\x05\x00\x00\x00\x00\x02\x03\x07"},
		{act(1, 0, 0, 0, 0), "\x05\x02\x00\x00\x00\x00\x03\x0f"},
		{act(0, 0, 0, 0, -1), "\x05\x00\x00\x00\x00\x01\x02\x06"},
		{act(1, 2, 3, 4, 5), "\x05\x02\x04\x06\x08\x0a\x1f\x4b"},
		{act(-1, -2, -3, -4, -5), "\x05\x01\x03\x05\x07\x09\x1a\x3c"},
		{act(63, 0, 0, 0, 0), "\x05\x7e\x00\x00\x00\x00\x7f\x85"},
		{act(0, 0, 0, 0, 64), "\x06\x00\x00\x00\x00\x80\x01\x82\x0c"},
		{act(0, 0, 0, 0, -64), "\x05\x00\x00\x00\x00\x7f\x80\x84"},
		{act(0, 0, 0, 0, -65), "\x06\x00\x00\x00\x00\x81\x01\x83\x0e"},
		{act(6, 1, -1, 0, 100), "\x06\x0c\x02\x01\x00\xc8\x01\xd9\xf2"},
	} {
		if got := frame(t, e.a); got != e.want {
			t.Errorf("Frame(%+v) = %q, want %q", e.a, got, e.want)
		}
	}
}

func TestFrameOfEveryNumberOfBytes(t *testing.T) {
	type example struct {
		n     int
		bytes string
	}
	for _, e := range []example{
		{0, "\x00"}, {-1, "\x01"}, {1, "\x02"}, {63, "\x7e"}, {-64, "\x7f"},
		{64, "\x80\x01"}, {8191, "\xfe\x7f"}, {-8192, "\xff\x7f"},
		{8192, "\x80\x80\x01"}, {1<<20 - 1, "\xfe\xff\x7f"}, {-1 << 20, "\xff\xff\x7f"},
		{1 << 20, "\x80\x80\x80\x01"}, {1<<27 - 1, "\xfe\xff\xff\x7f"}, {-1 << 27, "\xff\xff\xff\x7f"},
		{1 << 27, "\x80\x80\x80\x80\x01"}, {-bound, "\xff\xff\xff\xff\x07"}, {bound, "\x80\x80\x80\x80\x08"},
	} {
		for i := range 5 {
			want := wrap(strings.Repeat("\x00", i) + e.bytes + strings.Repeat("\x00", 4-i))
			if got := frame(t, withField(api.Act{}, i, e.n)); got != want {
				t.Errorf("field %d is %d: %q, want %q", i, e.n, got, want)
			}
		}
	}
	if s := frame(t, act(bound, -bound, bound, -bound, bound)); len(s) != 28 || s[0] != 25 {
		t.Errorf("the longest frame is %q", s)
	}
}

func TestFrameOfManyActs(t *testing.T) {
	check := func(a api.Act) {
		t.Helper()
		if got, want := frame(t, a), literalFrame(a); got != want {
			t.Errorf("Frame(%+v) = %q, want %q", a, got, want)
		}
	}
	for i := range 5 {
		for _, n := range edges() {
			check(withField(act(1, -2, 300, -40000, bound), i, n))
		}
	}
	r := rand.New(rand.NewSource(4))
	for range 20000 {
		check(randomAct(r))
	}
}

// Every remainder occurs, and none of 251 or more.
func TestFrameChecksumIsARemainder(t *testing.T) {
	var first, second [256]bool
	for n := -20000; n <= 20000; n++ {
		s := frame(t, act(n, 0, 0, 0, n))
		first[s[len(s)-2]] = true
		second[s[len(s)-1]] = true
	}
	for i := range 256 {
		if first[i] != (i < 251) || second[i] != (i < 251) {
			t.Errorf("%d: %v, %v", i, first[i], second[i])
		}
	}
}

func TestFrameOutsideTheBounds(t *testing.T) {
	for i := range 5 {
		for _, n := range outside() {
			a := withField(act(1, 2, 3, 4, 5), i, n)
			if s, err := Frame(a); s != "" || err != api.ErrRange {
				t.Errorf("Frame(%+v) = %q, %d", a, s, err)
			}
		}
	}
}

func TestReadNothing(t *testing.T) {
	checkRead(t, "empty", "", 0)
	checkNone(t, "zeros", strings.Repeat("\x00", 100))
	checkNone(t, "digits without end", strings.Repeat("\xff", 300))
	checkNone(t, "text", "no frame at all")
}

func TestReadOneAct(t *testing.T) {
	for i := range 5 {
		for _, n := range edges() {
			a := withField(act(1, -2, 300, -40000, bound), i, n)
			s := frame(t, a)
			checkRead(t, "one act", s, len(s), a)
		}
	}
	// Kinds that no bank knows are acts as well.
	for _, a := range []api.Act{{}, {Kind: 12}, {Kind: -1}} {
		s := frame(t, a)
		checkRead(t, "other kind", s, len(s), a)
	}
}

func TestReadManyActs(t *testing.T) {
	r := rand.New(rand.NewSource(5))
	var acts []api.Act
	for range 50000 {
		acts = append(acts, randomAct(r))
	}
	s := frames(t, acts...)
	got, n := Read(s)
	if !slices.Equal(got, acts) || n != len(s) {
		t.Errorf("%d acts of %d, %d bytes of %d", len(got), len(acts), n, len(s))
	}
}

func TestReadTheSameActAgain(t *testing.T) {
	a := act(api.ActFund, 2, 0, 0, 5)
	s := frame(t, a)
	checkRead(t, "three times", s+s+s, 3*len(s), a, a, a)
}

// The power may fail at every byte.
func TestReadOfACutBook(t *testing.T) {
	acts := []api.Act{act(1, 2, 3, -64, 64), {}, act(bound, -bound, bound, -bound, bound), act(6, 1, 0, 0, 100)}
	s := frames(t, acts...)
	for cut := range len(s) + 1 {
		whole, size := 0, 0
		for _, a := range acts {
			if end := size + len(frame(t, a)); end <= cut {
				whole, size = whole+1, end
			} else {
				break
			}
		}
		checkRead(t, "cut", s[:cut], size, acts[:whole]...)
	}
}

// What follows a cut frame is lost, even where it is a frame by itself.
func TestReadStopsAtACutFrame(t *testing.T) {
	s := frame(t, act(1, 2, 3, -64, 6400))
	for cut := 1; cut < len(s); cut++ {
		checkNone(t, "cut", s[:cut])
	}
}

func TestReadOfOneChangedByte(t *testing.T) {
	for _, a := range []api.Act{{}, act(1, 2, 0, 1, 1000000), act(-1, -64, 64, -8192, 8192), act(bound, -bound, 1, -bound, bound)} {
		s := frame(t, a)
		for i := range len(s) {
			for c := range 256 {
				if byte(c) == s[i] {
					continue
				}
				// The remainders of the sums cannot tell a byte from one that is 251 greater, but the fields can.
				checkNone(t, "changed", s[:i]+string([]byte{byte(c)})+s[i+1:])
			}
		}
	}
}

func TestReadOfTwoExchangedBytes(t *testing.T) {
	s := frame(t, act(1, 2, 3, -64, 6400))
	for i := range len(s) {
		for k := range i {
			b := []byte(s)
			b[i], b[k] = b[k], b[i]
			if string(b) != s {
				checkNone(t, "exchanged", string(b))
			}
		}
	}
}

func TestReadNeedsExactRemainders(t *testing.T) {
	for _, a := range []api.Act{{}, act(0, 0, 0, 0, 1)} {
		s := frame(t, a)
		for i := len(s) - 2; i < len(s); i++ {
			if b := []byte(s); b[i] < 5 {
				b[i] += 251
				checkNone(t, "remainder", string(b))
			}
		}
	}
}

func TestReadNeedsFewestBytes(t *testing.T) {
	for _, n := range []int64{0, 1, 2, 127, 128, 16384, 1 << 21, 1 << 28, 2 * bound} {
		for more := 1; more < 12; more++ {
			long := digits(big.NewInt(n), more)
			checkNone(t, "long first field", wrap(long+"\x00\x00\x00\x00"))
			checkNone(t, "long field", wrap("\x00\x00"+long+"\x00\x00"))
			checkNone(t, "long last field", wrap("\x00\x00\x00\x00"+long))
		}
	}
}

func TestReadNeedsFiveFields(t *testing.T) {
	for count := range 250 {
		if count != 5 {
			checkNone(t, "zeros", wrap(strings.Repeat("\x00", count)))
			checkNone(t, "ones", wrap(strings.Repeat("\x02", count)))
		}
	}
	checkNone(t, "open last field", wrap("\x00\x00\x00\x00\x80"))
	checkNone(t, "open sixth field", wrap("\x00\x00\x00\x00\x00\x80"))
}

func TestReadNeedsFieldsWithinTheBounds(t *testing.T) {
	for i := range 5 {
		for _, n := range outside() {
			checkNone(t, "outside", literalFrame(withField(act(1, 2, 3, 4, 5), i, n)))
		}
		// A number that has lost its highest bits must not look like a valid one.
		for _, shift := range []uint{31, 32, 33, 34, 35, 36, 62, 63, 64, 65, 70, 77, 128, 250} {
			code := new(big.Int).Lsh(big.NewInt(1), shift)
			code.Add(code, big.NewInt(6))
			body := strings.Repeat("\x04", i) + digits(code, 0) + strings.Repeat("\x04", 4-i)
			checkNone(t, "lost bits", wrap(body))
		}
	}
}

func TestReadNeedsTheRightLength(t *testing.T) {
	s := frame(t, act(1, 2, 3, 4, 5))
	for n := range 256 {
		if n != 5 {
			checkNone(t, "length", string([]byte{byte(n)})+s[1:]+strings.Repeat("\x00", 256))
		}
	}
}

// Bytes from a small set make valid and nearly valid bodies frequent.
func TestReadOfAllShortBodies(t *testing.T) {
	set := "\x00\x01\x7f\x80\xff"
	var check func(body string)
	check = func(body string) {
		s := wrap(body)
		want, size := literalRead(s)
		checkRead(t, "short body", s, size, want...)
		for i := range len(set) {
			if len(body) < 7 {
				check(body + set[i:i+1])
			}
		}
	}
	check("")
}

func TestReadOfManyBooks(t *testing.T) {
	r := rand.New(rand.NewSource(6))
	read := 0
	for range 30000 {
		var acts []api.Act
		for range r.Intn(5) {
			acts = append(acts, randomAct(r))
		}
		b := []byte(frames(t, acts...))
		for range r.Intn(3) {
			if len(b) > 0 {
				b[r.Intn(len(b))] = byte(r.Intn(256))
			}
		}
		for range r.Intn(4) {
			b = append(b, byte(r.Intn(256)))
		}
		want, size := literalRead(string(b))
		checkRead(t, "random", string(b), size, want...)
		read += len(want)
	}
	if read == 0 {
		t.Error("no book has a frame, so the test says nothing")
	}
}

func FuzzRead(f *testing.F) {
	f.Add("")
	f.Add("\x06\x0c\x02\x01\x00\xc8\x01\xd9\xf2\x05\x00\x00\x00\x00\x00\x01\x05")
	f.Fuzz(func(t *testing.T, s string) {
		want, size := literalRead(s)
		checkRead(t, "fuzz", s, size, want...)
	})
}
