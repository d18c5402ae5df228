/-
  What Gap returns, by the first gap with which all trucks are borne. Speaks of no program.
-/
import Derived.Test.YtkkljbbgaogifaaNumV
import Derived.Test.YtkkljbbgaogifaaInv
set_option linter.unusedVariables false
set_option linter.unusedSimpArgs false
namespace Go.Proofs.Ytkkljbbgaogifaa
open Go.RowKit

def gapF (p : Pl) (th : Int) (n : Nat) (W0 W1 : Nat → Int) (d : Nat) : Bool := rowV p th W0 W1 n (d : Int)
def eGap (p : Pl) (th : Int) (n : Nat) (W0 W1 : Nat → Int) : Int := orE (ePl p) (orE (eN th 0 5000) (eSps 200000 n 30 W0 W1))
def gapV (p : Pl) (th : Int) (n : Nat) (W0 W1 : Nat → Int) : Int := if lstV (gapF p th n W0 W1) 10001 ≤ 10000 then (lstV (gapF p th n W0 W1) 10001 : Int) else -1
def gapR (p : Pl) (th : Int) (n : Nat) (W0 W1 : Nat → Int) : Int := if eGap p th n W0 W1 = 0 then gapV p th n W0 W1 else 0
theorem gapF_up {p : Pl} (hp : p.Ok) {th : Int} {n : Nat} {W0 W1 : Nat → Int} (hW : ∀ i, i < n → 0 ≤ W1 i) (i j : Nat) (h : i ≤ j) (hi : gapF p th n W0 W1 i = true) : gapF p th n W0 W1 j = true :=
  row_gap hp (by omega) (by omega) hW hi
end Go.Proofs.Ytkkljbbgaogifaa
