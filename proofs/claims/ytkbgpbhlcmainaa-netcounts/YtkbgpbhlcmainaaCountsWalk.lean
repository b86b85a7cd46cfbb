/- The walk of NetCounts. -/
import Derived.Test.YtkbgpbhlcmainaaHeads
import Derived.Test.YtkbgpbhlcmainaaRefOld
namespace Go.Proofs.Ytkbgpbhlcmainaa
open Go.ChangeShapes Go.WideShapes Go.ChangeAt Go.RowKit
set_option linter.unusedVariables false

set_option maxRecDepth 100000 in
set_option maxHeartbeats 2000000 in
theorem counts_walk (A : Option Addr) (n c : Nat) (l : List Dg) (now : Int) (da : Option Addr) (dc : Nat) (bs : List Int) (w : World) (hD : DatsAt w A n c l) (hk : I64 now) (hb : BytesAt w da bs) (h0 : da = none → dc = 0) :
    Calls Try.prog 5 #[.slice A n c, .int .i64 now, .slice da bs.length dc] w fun e w' => e = .returned (.bool true) ∧ Below w.heap.size w w' := by
  have c1 := oldest_any A n c l now w hD hk
  obtain ⟨v, hv⟩ : ∃ v, oldI l now = v := ⟨_, rfl⟩
  obtain ⟨q, hq⟩ : ∃ q : Int, ((cntN l bs : Nat) : Int) = q := ⟨_, rfl⟩
  rw [hv] at c1
  have HD : Hid (DatsAt w A n c l ∧ BytesAt w da bs ∧ I64 now ∧ oldI l now = v ∧ ((cntN l bs : Nat) : Int) = q) := ⟨hD, hb, hk, hv, hq⟩
  clear hD hb hk hv hq h0
  go_enter Try.func5, Try.ntmps5
  go_wp2_with fail
  refine c1.mono ?_
  rintro e w1 ⟨rfl, hB1⟩
  have HB1 : Hid (Below w.heap.size w w1) := hB1
  have c2 := refOldest_any A n c l now w1 (HD.out.1.later hB1) HD.out.2.2.1
  rw [HD.out.2.2.2.1] at c2
  clear c1 hB1
  go_wp2_with fail
  refine c2.mono ?_
  rintro e w2 ⟨rfl, rfl⟩
  have c3 := count_any A n c l da dc bs w2 (HD.out.1.later HB1.out) (HD.out.2.1.later HB1.out)
  rw [HD.out.2.2.2.2] at c3
  clear c2
  go_wp2_with fail
  refine c3.mono ?_
  rintro e w3 ⟨rfl, hB3⟩
  have HB3 : Hid (Below w.heap.size w w3) := Below.on HB1.out hB3
  have c4 := refCount_any A n c l da dc bs w3 (HD.out.1.later HB3.out) (HD.out.2.1.later HB3.out)
  rw [HD.out.2.2.2.2] at c4
  clear c3 hB3 HB1
  go_wp2_with fail
  refine c4.mono ?_
  rintro e w4 ⟨rfl, rfl⟩
  clear c4
  go_wp2_with fail
  refine (heads_any _).mono ?_
  rintro e w5 ⟨rfl, hB5⟩
  go_wp2_with fail
  go_ret
  exact ⟨rfl, Below.on HB3.out hB5⟩
end Go.Proofs.Ytkbgpbhlcmainaa
