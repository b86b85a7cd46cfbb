/- What the contract of Weigh wants. -/
import Derived.Test.YtdodagpkkjpdiaaAMay
import Derived.Test.YtdodagpkkjpdiaaAPlc
import Derived.Test.YtdodagpkkjpdiaaATw
import Derived.Test.YtdodagpkkjpdiaaASp
import Derived.Deep.Quiet
namespace Go.Proofs.Ytdodagpkkjpdiaa
open Go.ChangeShapes Go.WideShapes Go.ChangeAt Go.RowKit Go.Shelf
set_option linter.unusedVariables false
set_option linter.unusedSimpArgs false
attribute [local go_sem] Oper.semAt_some


theorem max2 {x y m : Int} (h : max x y = m) (W : World) : (Builtin.max_ #[3, 3] 3 #[.int .i64 x, .int .i64 y]).run Try.prog W = .ok (.int .i64 m) W := by
  subst h
  simp [Builtin.max_, Builtin.max2]
  omega
theorem min2 {x y m : Int} (h : min x y = m) (W : World) : (Builtin.min_ #[3, 3] 3 #[.int .i64 x, .int .i64 y]).run Try.prog W = .ok (.int .i64 m) W := by
  subst h
  simp [Builtin.min_, Builtin.min2]
  omega

theorem built31m (u y n : Int) (o : Bool) : Try.prog.built 31 [(0, .bool true), (1, .int .i64 u), (2, .bool o), (3, .int .i64 y), (4, .int .i64 n)] = some (hcL ⟨true, u, o, y, n, 0, 0, false, none, 0, 0⟩).toArray := by kernel_rfl
theorem TimsAt.sto0 {w X : World} {g e : Nat} {l : List Tm} (h : TimsAt w (some ⟨e, 0, none⟩) l) (hs : Sto w g X) (he : e ≠ g) : TimsAt X (some ⟨e, 0, none⟩) l := by
  refine ⟨h.1, fun j hj => ?_⟩
  obtain ⟨b, o, e1, h0, h1⟩ := h.2 j hj
  cases e1
  have hb := hs.other e he
  refine ⟨e, 0, rfl, ?_, ?_⟩
  · rw [← h0]; unfold World.cell?; simp only [hb]
  · rw [← h1]; unfold World.cell?; simp only [hb]
theorem RowT.sto0 {w X : World} {B g L vc : Nat} {va : Option Addr} {l : List Tm} (h : RowT w B va L vc l) (hs : Sto w g X) (hg : g < B) : RowT X B va L vc l :=
  h.moved fun k _ hk => hs.other k (by have := h.ge hk; omega)
end Go.Proofs.Ytdodagpkkjpdiaa
