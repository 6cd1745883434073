package tests

import (
	"fmt"
	"math/big"
	"testing"

	"loop.example/reed/impl"
)

// grown is n consts, each one more than twice the one before it (the one before the first counts as 0).
func grown(n int, name func(i int) string, next func(before twig) twig) twig {
	statements := []twig{fixes(1, name(1), number(1))}
	for i := 2; i <= n; i++ {
		statements = append(statements, fixes(i, name(i), next(word(name(i-1)))))
	}
	return body(statements...)
}

// wantGrown reckons 2 to the n, less 1, without a wrap, and takes what is left of it in 64 bits.
func wantGrown(t *testing.T, what string, text twig, n int) {
	t.Helper()
	var values []*impl.Value
	for i := 1; i <= n; i++ {
		power := new(big.Int).Lsh(big.NewInt(1), uint(i))
		values = append(values, is(wrapped(power.Sub(power, big.NewInt(1)))))
	}
	wantConsts(t, what, text, values...)
}

func TestConstsEachOneMoreThanTwiceTheOneBefore(t *testing.T) {
	own := func(i int) string { return fmt.Sprintf("k%d", i) }
	same := func(i int) string { return "k" }
	ways := map[string]func(twig) twig{
		"2 * k + 1": func(k twig) twig { return two(impl.OpAdd, two(impl.OpMul, number(2), k), number(1)) },
		"k + k + 1": func(k twig) twig { return two(impl.OpAdd, two(impl.OpAdd, k, k), number(1)) },
		"1 + k * 2": func(k twig) twig { return two(impl.OpAdd, number(1), two(impl.OpMul, k, number(2))) },
		"k << 1 | 1": func(k twig) twig {
			return two(impl.OpOr, two(impl.OpShl, k, number(1)), number(1))
		},
	}
	for n := 1; n <= 80; n++ {
		for how, next := range ways {
			wantGrown(t, fmt.Sprintf("%d consts, %s", n, how), grown(n, own, next), n)
			wantGrown(t, fmt.Sprintf("%d consts of one name, %s", n, how), grown(n, same, next), n)
		}
	}
}

// The ends by hand: the last that is not wrapped, and all behind it.
func TestLastOfGrownConsts(t *testing.T) {
	next := func(k twig) twig { return two(impl.OpAdd, two(impl.OpMul, number(2), k), number(1)) }
	for n, want := range map[int]int64{1: 1, 2: 3, 3: 7, 10: 1023, 62: 1<<62 - 1, 63: most, 64: -1, 65: -1, 80: -1} {
		got := impl.Consts(lay(grown(n, func(i int) string { return "k" }, next)))
		if len(got) != n || got[n-1].Code != 0 || got[n-1].Value != vInt(want) {
			t.Errorf("%d: %v", n, got)
		}
	}
}

// The same in blocks and fns in one another, each of which has one const.
func TestGrownConstsInBlocksAndFns(t *testing.T) {
	next := func(k twig) twig { return two(impl.OpAdd, two(impl.OpMul, number(2), k), number(1)) }
	for n := 1; n <= 80; n++ {
		inner := body()
		for i := n; i >= 1; i-- {
			value := number(1)
			if i > 1 {
				value = next(word("k"))
			}
			if i%20 == 0 {
				inner = body(fixes(i, "k", value), nameless(inner))
			} else {
				inner = body(fixes(i, "k", value), inner)
			}
		}
		wantGrown(t, fmt.Sprintf("%d in one another", n), inner, n)
	}
}
