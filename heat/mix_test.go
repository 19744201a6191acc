package heat_test

import (
	"math/rand"
	"slices"
	"testing"

	"saccharum/api"
	"saccharum/heat"
)

// portions reads each three numbers as a quantity, and the ends of its heat.
func portions(l ...int) (out []heat.Portion) {
	for i := 0; i < len(l); i += 3 {
		out = append(out, heat.Portion{Quantity: l[i], Heat: to(l[i+1], l[i+2])})
	}
	return out
}

// mixtures are some mixtures; always the same ones.
func mixtures() [][]heat.Portion {
	l := [][]heat.Portion{
		portions(100, 80, 80, 50, 50, 53), portions(1000, 0, 0), portions(1, 199, 200, 1000, 0, 1), portions(7, 3, 5, 7, 3, 5, 7, 3, 5, 7, 3, 5, 7, 3, 5),
		portions(1000, 200, 200, 1000, 200, 200, 1000, 200, 200, 1000, 200, 200, 1000, 200, 200), portions(1000, 199, 200, 1, 0, 0),
	}
	random := rand.New(rand.NewSource(20))
	for range 300 {
		var m []heat.Portion
		for range 1 + random.Intn(api.MaxHeatPortions) {
			m = append(m, heat.Portion{Quantity: between(random, 1, 9+random.Intn(992)), Heat: within(random, 0, 200, 4)})
		}
		l = append(l, m)
	}
	return l
}

// degrees are all lists of one degree for each portion.
func degrees(m []heat.Portion) [][]int {
	l := [][]int{nil}
	for _, p := range m {
		var more [][]int
		for _, d := range l {
			for n := p.Heat.Lo; n <= p.Heat.Hi; n++ {
				more = append(more, append(slices.Clone(d), n))
			}
		}
		l = more
	}
	return l
}

// mixed is the warmth of a mixture.
func mixed(m []heat.Portion, degrees []int) int {
	sum, quantity := 0, 0
	for i, p := range m {
		sum += p.Quantity * degrees[i]
		quantity += p.Quantity
	}
	n := 0
	for (n+1)*quantity <= sum {
		n++
	}
	return n
}

func TestP3_7Mix(t *testing.T) {
	for _, x := range []struct {
		l    []heat.Portion
		want heat.Range
	}{
		{portions(100, 80, 80, 50, 50, 53), to(70, 71)}, {portions(1, 0, 200), to(0, 200)}, {portions(2, 10, 10, 1, 12, 12), to(10, 10)},
		{portions(1, 10, 10, 2, 12, 12), to(11, 11)}, {portions(1000, 1, 1, 999, 0, 0), to(0, 0)}, {portions(1000, 200, 200), to(200, 200)},
		{portions(1, 0, 0, 1, 0, 1), to(0, 0)}, {portions(1, 1, 1, 1, 0, 1), to(0, 1)}, {portions(1, 0, 200, 1000, 0, 0), to(0, 0)},
		{portions(1000, 0, 200, 1000, 0, 200, 1000, 0, 200, 1000, 0, 200, 1, 0, 0), to(0, 199)},
	} {
		if r, e := heat.Mix(x.l); r != x.want || e != api.OK {
			t.Errorf("Mix of %v: %v, %v", x.l, r, e)
		}
	}
	for _, m := range mixtures() {
		want := to(1<<30, -1)
		for _, d := range degrees(m) {
			n := mixed(m, d)
			want = to(min(want.Lo, n), max(want.Hi, n))
		}
		if r, e := heat.Mix(m); r != want || e != api.OK {
			t.Fatalf("Mix of %v: %v, %v, not %v", m, r, e, want)
		}
	}
}

func TestP3_7NoMixture(t *testing.T) {
	for _, x := range []struct {
		l    []heat.Portion
		want api.Errno
	}{
		{nil, api.ErrArg}, {[]heat.Portion{}, api.ErrArg}, {make([]heat.Portion, 6), api.ErrLimit}, {make([]heat.Portion, 5), api.ErrArg},
		{portions(1, 5, 5, 1, 5, 5, 1, 5, 5, 1, 5, 5, 1, 5, 5, 1, 5, 5), api.ErrLimit}, {portions(1, 5, 5, 1, 5, 5, 1, 5, 5, 1, 5, 5, 1, 5, 5), api.OK},
		{portions(0, 5, 5), api.ErrArg}, {portions(-1, 5, 5), api.ErrArg}, {portions(1001, 5, 5), api.ErrArg}, {portions(1000, 5, 5), api.OK}, {portions(1, 5, 5), api.OK},
		{portions(1, 6, 5), api.ErrArg}, {portions(1, -1, 5), api.ErrArg}, {portions(1, -1, -1), api.ErrArg}, {portions(1, 5, 201), api.ErrArg}, {portions(1, 201, 201), api.ErrArg},
		{portions(1, 5, 5, 0, 5, 5), api.ErrArg}, {portions(1, 5, 5, 1, 5, 5, 1, 6, 5), api.ErrArg}, {portions(huge, 5, 5), api.ErrArg}, {portions(least, 5, 5), api.ErrArg},
		{portions(1, least, huge), api.ErrArg}, {portions(1, huge, least), api.ErrArg}, {portions(1, 5, huge), api.ErrArg}, {portions(1, least, 5), api.ErrArg},
	} {
		if r, e := heat.Mix(x.l); e != x.want || e != api.OK && r != to(0, 0) {
			t.Errorf("Mix of %v: %v, %v", x.l, r, e)
		}
	}
}

func TestP3_14Mixture(t *testing.T) {
	random := rand.New(rand.NewSource(21))
	divided := 0
	for _, m := range mixtures() {
		r, e := heat.Mix(m)
		low := slices.ContainsFunc(m, func(p heat.Portion) bool { return p.Heat.Lo <= r.Lo })
		high := slices.ContainsFunc(m, func(p heat.Portion) bool { return r.Hi <= p.Heat.Hi })
		if e != api.OK || !low || !high || r.Lo > r.Hi {
			t.Fatalf("Mix of %v: %v, %v", m, r, e)
		}
		other := slices.Clone(m)
		random.Shuffle(len(other), func(i, j int) { other[i], other[j] = other[j], other[i] })
		if q, f := heat.Mix(other); q != r || f != api.OK {
			t.Fatalf("Mix of %v: %v, but of %v: %v, %v", m, r, other, q, f)
		}
		if i := random.Intn(len(m)); len(m) < api.MaxHeatPortions && m[i].Quantity > 1 {
			divided++
			more := append(slices.Clone(m), m[i])
			more[i].Quantity = 1 + random.Intn(m[i].Quantity-1)
			more[len(m)].Quantity -= more[i].Quantity
			if q, f := heat.Mix(more); q != r || f != api.OK {
				t.Fatalf("Mix of %v: %v, but of %v: %v, %v", m, r, more, q, f)
			}
		}
	}
	if divided < 50 {
		t.Errorf("only %d portions were divided", divided)
	}
}
