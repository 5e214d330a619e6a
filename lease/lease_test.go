package lease

import (
	"math/rand"
	"testing"

	"semaphore/api"
)

const top = api.MaxCycle

func TestNewAndRight(t *testing.T) { // P23.1
	if New() != (Book{Holder: -1}) || !New().Right() {
		t.Error(New())
	}
	for _, b := range []Book{{0, -1, 0}, {0, -1, top + Term}, {1, -1, 0}, {1, 0, 5}, {1, 1, 5}, {top, 1, top + Term}} {
		if !b.Right() {
			t.Error("not right", b)
		}
	}
	for _, b := range []Book{{}, {0, 0, 0}, {0, 1, 5}, {-1, -1, 0}, {top + 1, -1, 0}, {1, -2, 0}, {1, 2, 0}, {1, 0, -1}, {1, 0, top + Term + 1}, {1, 1 << 62, 0}, {-1 << 63, 0, -1 << 63}} {
		if b.Right() {
			t.Error("right", b)
		}
	}
}

// asked fails, unless an answer is that of the book and the grant.
func asked(t *testing.T, b Book, g Grant, err api.Errno, wantB Book, wantG Grant, want api.Errno) {
	t.Helper()
	if b != wantB || g != wantG || err != want {
		t.Error(b, g, err, "not", wantB, wantG, want)
	}
}

func TestExamples(t *testing.T) { // P23.2, P23.3
	b, g, err := New().Ask(0, 5)
	asked(t, b, g, err, Book{1, 0, 13}, Grant{1, 13}, api.OK)
	same, g, err := b.Ask(1, 13)
	asked(t, same, g, err, b, Grant{}, api.ErrLease)
	b, g, err = b.Ask(1, 14)
	asked(t, b, g, err, Book{2, 1, 22}, Grant{2, 22}, api.OK)
	same, g, err = b.Renew(0, 1, 14)
	asked(t, same, g, err, b, Grant{}, api.ErrEpoch)
}

func TestAsk(t *testing.T) { // P23.2
	held := Book{4, 0, 20}
	for _, c := range []struct {
		b    Book
		pair int
		now  int64
		book Book
		g    Grant
		err  api.Errno
	}{
		{held, 0, 20, Book{5, 0, 28}, Grant{5, 28}, api.OK},
		{held, 0, 3, Book{5, 0, 11}, Grant{5, 11}, api.OK},
		{held, 1, 20, held, Grant{}, api.ErrLease},
		{held, 1, 0, held, Grant{}, api.ErrLease},
		{held, 1, 21, Book{5, 1, 29}, Grant{5, 29}, api.OK},
		{Book{4, -1, 20}, 1, 0, Book{5, 1, 8}, Grant{5, 8}, api.OK},
		{Book{top - 1, 0, 20}, 0, top, Book{top, 0, top + Term}, Grant{top, top + Term}, api.OK},
		{Book{top, 0, 20}, 0, 5, Book{top, 0, 20}, Grant{}, api.ErrLimit},
		{Book{top, 0, 20}, 1, 5, Book{top, 0, 20}, Grant{}, api.ErrLease},
	} {
		b, g, err := c.b.Ask(c.pair, c.now)
		asked(t, b, g, err, c.book, c.g, c.err)
	}
}

func TestRenew(t *testing.T) { // P23.3
	held := Book{4, 0, 20}
	for _, c := range []struct {
		b     Book
		pair  int
		epoch int64
		now   int64
		book  Book
		g     Grant
		err   api.Errno
	}{
		{held, 0, 4, 15, Book{4, 0, 23}, Grant{4, 23}, api.OK},
		{held, 0, 4, 20, Book{4, 0, 28}, Grant{4, 28}, api.OK},
		{held, 0, 4, 12, held, Grant{4, 20}, api.OK},
		{held, 0, 4, 3, held, Grant{4, 20}, api.OK},
		{held, 0, 4, 21, held, Grant{}, api.ErrLease},
		{held, 1, 4, 15, held, Grant{}, api.ErrLease},
		{held, 0, 5, 15, held, Grant{}, api.ErrLease},
		{held, 0, 3, 15, held, Grant{}, api.ErrEpoch},
		{held, 1, 3, 99, held, Grant{}, api.ErrEpoch},
		{Book{4, -1, 20}, 0, 4, 15, Book{4, -1, 20}, Grant{}, api.ErrLease},
		{New(), 0, 0, 0, New(), Grant{}, api.ErrLease},
	} {
		b, g, err := c.b.Renew(c.pair, c.epoch, c.now)
		asked(t, b, g, err, c.book, c.g, c.err)
	}
}

func TestGive(t *testing.T) { // P23.3
	held := Book{4, 1, 20}
	for _, c := range []struct {
		pair  int
		epoch int64
		book  Book
		err   api.Errno
	}{{1, 4, Book{4, -1, 20}, api.OK}, {0, 4, held, api.ErrLease}, {1, 5, held, api.ErrLease}, {1, 3, held, api.ErrEpoch}, {0, 0, held, api.ErrEpoch}} {
		if b, err := held.Give(c.pair, c.epoch); b != c.book || err != c.err {
			t.Error(c, b, err)
		}
	}
	free, _ := held.Give(1, 4)
	b, g, err := free.Ask(0, 0)
	asked(t, b, g, err, Book{5, 0, 8}, Grant{5, 8}, api.OK)
}

func TestArguments(t *testing.T) { // P23.2
	good := Book{4, 0, 20}
	for _, c := range []struct {
		b          Book
		pair       int
		epoch, now int64
	}{{Book{}, 0, 4, 5}, {Book{4, 3, 20}, 0, 4, 5}, {good, -1, 4, 5}, {good, 2, 4, 5}, {good, 0, -1, -1}, {good, 0, top + 1, top + 1}, {good, 1 << 62, 4, 5}, {good, 0, -1 << 63, 1<<63 - 1}} {
		b, g, err := c.b.Ask(c.pair, c.now)
		asked(t, b, g, err, c.b, Grant{}, api.ErrArg)
		b, g, err = c.b.Renew(c.pair, c.epoch, 5)
		asked(t, b, g, err, c.b, Grant{}, api.ErrArg)
		b, g, err = c.b.Renew(c.pair, 4, c.now)
		if c.b != good || c.pair != 0 || c.now != 5 {
			asked(t, b, g, err, c.b, Grant{}, api.ErrArg)
		}
		if b, err := c.b.Give(c.pair, c.epoch); b != c.b || err != api.ErrArg {
			t.Error("Give", c, b, err)
		}
	}
}

func TestTake(t *testing.T) { // P23.4
	tenant := Tenant{1, Grant{5, 20}}
	for _, c := range []struct {
		g    Grant
		want Grant
		err  api.Errno
	}{
		{Grant{6, 3}, Grant{6, 3}, api.OK}, {Grant{5, 30}, Grant{5, 30}, api.OK}, {Grant{5, 3}, Grant{5, 20}, api.OK}, {Grant{top + Term, top + Term}, Grant{top + Term, top + Term}, api.OK},
		{Grant{4, 99}, Grant{}, api.ErrEpoch}, {Grant{0, 0}, Grant{}, api.ErrEpoch}, {Grant{-1, 9}, Grant{}, api.ErrArg}, {Grant{6, -1}, Grant{}, api.ErrArg}, {Grant{top + Term + 1, 9}, Grant{}, api.ErrArg}, {Grant{4, top + Term + 1}, Grant{}, api.ErrArg},
	} {
		want := Tenant{1, c.want}
		if c.err != api.OK {
			want = Tenant{}
		}
		if got, err := tenant.Take(c.g); got != want || err != c.err {
			t.Error(c, got, err)
		}
	}
	if tenant != (Tenant{1, Grant{5, 20}}) {
		t.Error("the tenant itself was changed")
	}
}

func TestHolds(t *testing.T) { // P23.4
	for _, c := range []struct {
		g    Grant
		now  int64
		want bool
	}{{Grant{1, 13}, 11, true}, {Grant{1, 13}, 12, false}, {Grant{1, 13}, -1 << 62, true}, {Grant{1, 13}, 1 << 62, false}, {Grant{0, 13}, 1, false}, {Grant{1, 0}, 0, false}, {Grant{1, 0}, -2, true}, {Grant{-1, 13}, 1, false}, {Grant{1, 1 << 62}, 1 << 61, true}, {Grant{1, -1 << 62}, 0, false}} {
		if (Tenant{0, c.g}).Holds(c.now) != c.want {
			t.Error(c)
		}
	}
}

func TestWhatFollows(t *testing.T) { // P23.5
	r := rand.New(rand.NewSource(1))
	for range 500 {
		b, now, granted := New(), int64(Skew), map[int64]int{}
		tenants := [2]Tenant{{Pair: 0}, {Pair: 1}}
		for range 80 {
			now += int64(r.Intn(4))
			pair, epoch := r.Intn(2), b.Epoch
			var next Book
			var g Grant
			err := api.OK
			switch r.Intn(5) {
			case 0:
				next, err = b.Give(pair, tenants[pair].Grant.Epoch)
				if err == api.OK {
					tenants[pair].Grant.Until = 0
				}
			case 1, 2:
				next, g, err = b.Ask(pair, now)
			default:
				next, g, err = b.Renew(pair, tenants[pair].Grant.Epoch, now)
			}
			if next.Epoch < epoch || err != api.OK && (next != b || g != Grant{}) {
				t.Fatal(b, next, g, err)
			}
			b = next
			if g == (Grant{}) {
				continue
			}
			other := tenants[1-pair]
			if other.Holds(now - int64(r.Intn(Skew+1))) {
				t.Fatal("granted while the other one holds", b, g, other, now)
			}
			if was, ok := granted[g.Epoch]; ok && was != pair {
				t.Fatal("an epoch of both", g)
			}
			granted[g.Epoch] = pair
			tenants[pair], _ = tenants[pair].Take(g)
		}
	}
}
