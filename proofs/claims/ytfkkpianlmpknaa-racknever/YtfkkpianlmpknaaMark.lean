/- The contract of Mark. -/
import Derived.Test.YtfkkpianlmpknaaMark1
namespace Go.Proofs.Ytfkkpianlmpknaa
open Go.ChangeShapes Go.WideShapes Go.ChangeAt Go.RowKit Go.Shelf
set_option linter.unusedVariables false
set_option linter.unusedSimpArgs false
attribute [local go_sem] Oper.semAt_some

theorem mark_is (ks ke kr : Int) (kn : Bool) (kf km ko kl : Int) (now wait : Int) (A : Option Addr) (cap : Nat) (ts : List Rc) (w : World) (hT : RecsAt w A ts) (hA : A = none → cap = 0) (hb : ts.length * 80 ≤ 140737488355328)
    (L : List Rc) (hL : mrkL ⟨ks, ke, kr, kn, kf, km, ko, kl⟩ ts now wait = L) (li : Int) (hli : mrkI ⟨ks, ke, kr, kn, kf, km, ko, kl⟩ ts now wait = li) (er : Int) (her : mrkE ⟨ks, ke, kr, kn, kf, km, ko, kl⟩ ts now wait = er) :
    Calls Try.prog 25 #[.agg #[.int .i64 ks, .int .i64 ke, .int .i64 kr, .bool kn, .int .i64 kf, .int .i64 km, .int .i64 ko, .int .i64 kl], .slice A ts.length cap, .int .i64 now, .int .i64 wait] w fun e w' => ∃ va vc, e = .returned (.tuple #[.slice va L.length vc, .int .i64 li, .int .i64 er]) ∧ RowR w' w.heap.size va L.length vc L ∧ Below w.heap.size w w' := by
  unfold mrkL at hL
  unfold mrkI at hli
  unfold mrkE at her
  cases k : okK ⟨ks, ke, kr, kn, kf, km, ko, kl⟩ with
  | false =>
    rw [if_neg (by simp [k])] at hL hli her; subst hL; subst hli; subst her
    exact (mark_no ks ke kr kn kf km ko kl now wait A cap ts w k).mono fun e w' h => ⟨none, 0, h.1, RowR.nil _ _, h.2⟩
  | true =>
    rw [if_pos k] at hL hli her
    unfold mrkB at hL hli her
    cases q1 : tmB now with
    | false =>
      rw [q1] at hL hli her; subst hL; subst hli; subst her
      exact (mark_now ks ke kr kn kf km ko kl now wait A cap ts w k q1).mono fun e w' h => ⟨none, 0, h.1, RowR.nil _ _, h.2⟩
    | true =>
    cases q2 : tmB wait with
    | false =>
      rw [q1, q2] at hL hli her; subst hL; subst hli; subst her
      exact (mark_wait ks ke kr kn kf km ko kl now wait A cap ts w k q1 q2).mono fun e w' h => ⟨none, 0, h.1, RowR.nil _ _, h.2⟩
    | true =>
    rw [q1, q2] at hL hli her
    refine (mark_run ks ke kr kn kf km ko kl now wait A cap ts w hT hA hb k q1 q2).mono ?_
    rintro e w' ⟨⟨hr, va, vc, rfl, hR⟩ | ⟨hr, rfl⟩, hB⟩
    · rw [hr] at hL hli her
      have hL0 : ts.map (markX ⟨ks, ke, kr, kn, kf, km, ko, kl⟩ now wait) = L := hL
      have hl0 : leftI ⟨ks, ke, kr, kn, kf, km, ko, kl⟩ now wait ts.reverse = li := hli
      have he0 : 0 = er := her
      subst hL0; subst hl0; subst he0
      exact ⟨va, vc, by simp, by simpa using hR, hB⟩
    · rw [hr] at hL hli her
      have hL0 : [] = L := hL
      have hl0 : 0 = li := hli
      have he0 : 2 = er := her
      subst hL0; subst hl0; subst he0
      exact ⟨none, 0, rfl, RowR.nil _ _, hB⟩
end Go.Proofs.Ytfkkpianlmpknaa
