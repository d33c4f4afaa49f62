import Derived.Test.YtdcgjdgpiogdaaaGreatDoorYK
namespace Go.Proofs.YtdcgjdgpiogdaaaGreatDoor
open Go.RowKit
/-- What a here's line is behind its word. -/
def hereW (x : G16) : List UInt8 := dec x.fr ++ [10]
set_option maxHeartbeats 2000000 in
set_option maxRecDepth 100000 in
theorem c83 (x : G16) (kd : Int) (ai : Option Addr) (ci : Nat) (w : World) (hp : Pow w) (h0 : 0 ≤ x.fr) (h1 : x.fr ≤ 1000) :
    Calls Tryz.prog 83 #[.agg #[.int .i64 kd, .int .i64 x.to, .int .i64 x.fr, .int .i64 x.ep, .int .i64 x.ed, .string x.km.nm, .string x.km.tl, .string x.km.ar, .slice ai x.ls.length ci, .int .i64 x.ct, .bool x.tn.over, .int .i64 x.tn.cd, .string x.tn.tx, .bool x.tn.has, .string x.tn.nm, .int .i64 x.tn.st]] w fun e w' => e = .returned (.string (ofL (hereW x))) ∧ Below w.heap.size w w' := by
  have z1 := dec_size x.fr h0 (by omega)
  have HE : Hid (ofL (dec x.fr) ++ ⟨#[10]⟩ = ofL (hereW x)) := by
    show ofL (dec x.fr) ++ ofL [10] = _
    rw [cat_ofL]; rfl
  have HJ : Hid (Lib.join ([x.fr].map dec) [32] = dec x.fr) := by simp [Lib.join, Hid]
  have hB0 : ∀ o p, Below w.heap.size w ((w.alloc o).alloc p) := fun o p => ((Below.refl _ _).alloc (Nat.le_refl _) _).alloc (by simp) _
  have k1 : ¬ 9223372036854775807 < (ofL (dec x.fr)).size + 1 := by omega
  have k1' : ¬ 9223372036854775807 ≤ (ofL (dec x.fr)).size := by omega
  go_enter Tryz.func83, Tryz.ntmps83
  go_wp2_with fail
  refine (c99 (w.heap.size + 1) 0 1 [x.fr] _ (pow_below hp (hB0 _ _)) ?cl (by simp) ?rg (by simp) (by simp)).mono ?_
  case cl =>
    intro j n hj
    match j with
    | 0 => simp at hj; subst hj; simp [go_sem]
    | j + 1 => simp at hj
  case rg => intro n hn; simp at hn; subst hn; exact ⟨h0, h1⟩
  rw [HJ.out]
  rintro e w1 ⟨rfl, hb1⟩
  have HB1 : Hid (Below w.heap.size w w1) := (hB0 _ _).trans (hb1.mono (by simp; omega))
  clear hb1
  go_wp2
  go_ret
  exact ⟨by rw [← HE.out]; rfl, HB1.out⟩
end Go.Proofs.YtdcgjdgpiogdaaaGreatDoor
