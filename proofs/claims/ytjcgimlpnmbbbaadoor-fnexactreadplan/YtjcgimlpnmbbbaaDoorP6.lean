import Derived.Test.YtjcgimlpnmbbbaaDoorP4
import Derived.Test.YtjcgimlpnmbbbaaDoorP5
import Derived.Deep.RegionHeld3
import Derived.Laws.Cover1
namespace Go.Proofs.YtjcgimlpnmbbbaaDoor
set_option linter.unusedSimpArgs false
open Go.RowKit

/-- A make's names are names, its text isn't too long. -/
def okM (x : M3) : Bool := nameOk x.nm.data.toList && nameOk x.tl.data.toList && decide ((x.ar.size : Int) ≤ 300)

set_option maxHeartbeats 1000000 in
theorem c15 (x : M3) (w : World) (hs : x.le 1048700) :
    Calls Tryd.prog 15 #[.agg #[.string x.nm, .string x.tl, .string x.ar]] w fun e w' => e = .returned (.bool (okM x)) ∧ Below w.heap.size w w' := by
  have HF : Hid (okM x = (nameOk x.nm.data.toList && nameOk x.tl.data.toList && decide ((x.ar.size : Int) ≤ 300))) := rfl
  obtain ⟨h1, h2, h3⟩ := hs
  go_enter Tryd.func15, Tryd.ntmps15
  go_wp2_with fail
  refine (c30 _ _ h1).mono ?_
  rintro e w1 ⟨rfl, rfl⟩
  cases hn : nameOk x.nm.data.toList
  · rw [hn] at HF
    go_wp2
    all_goals go_ret
    all_goals exact ⟨ret_bool (by rw [HF.out]; simp), (Below.refl _ _).alloc (Nat.le_refl _) _⟩
  · rw [hn] at HF
    go_wp2_with fail
    refine (c30 _ _ h2).mono ?_
    rintro e w1 ⟨rfl, rfl⟩
    cases hm : nameOk x.tl.data.toList
    all_goals
      rw [hm] at HF
      go_wp2
      all_goals go_ret
      all_goals exact ⟨ret_bool (by rw [HF.out]; simp), (Below.refl _ _).alloc (Nat.le_refl _) _⟩
theorem c15v {x : M3} {v : Bool} (hv : okM x = v) (w : World) (hs : x.le 1048700) :
    Calls Tryd.prog 15 #[.agg #[.string x.nm, .string x.tl, .string x.ar]] w fun e w' => e = .returned (.bool v) ∧ Below w.heap.size w w' := hv ▸ c15 x w hs

set_option maxHeartbeats 1000000 in
theorem c32 (x : M3) (w : World) (hs : x.le 1048700) :
    Calls Tryd.prog 32 #[.agg #[.string x.nm, .string x.tl, .string x.ar]] w fun e w' => e = .returned (.bool (okM x)) ∧ Below w.heap.size w w' := by
  have HF : Hid (okM x = (nameOk x.nm.data.toList && nameOk x.tl.data.toList && decide ((x.ar.size : Int) ≤ 300))) := rfl
  obtain ⟨h1, h2, h3⟩ := hs
  go_enter Tryd.func32, Tryd.ntmps32
  go_wp2_with fail
  refine (c44 _ _ h1).mono ?_
  rintro e w1 ⟨rfl, rfl⟩
  cases hn : nameOk x.nm.data.toList
  · rw [hn] at HF
    go_wp2
    all_goals go_ret
    all_goals exact ⟨ret_bool (by rw [HF.out]; simp), (Below.refl _ _).alloc (Nat.le_refl _) _⟩
  · rw [hn] at HF
    go_wp2_with fail
    refine (c44 _ _ h2).mono ?_
    rintro e w1 ⟨rfl, rfl⟩
    cases hm : nameOk x.tl.data.toList
    all_goals
      rw [hm] at HF
      go_wp2
      all_goals go_ret
      all_goals exact ⟨ret_bool (by rw [HF.out]; simp), (Below.refl _ _).alloc (Nat.le_refl _) _⟩
theorem c32v {x : M3} {v : Bool} (hv : okM x = v) (w : World) (hs : x.le 1048700) :
    Calls Tryd.prog 32 #[.agg #[.string x.nm, .string x.tl, .string x.ar]] w fun e w' => e = .returned (.bool v) ∧ Below w.heap.size w w' := hv ▸ c32 x w hs

theorem c34' (s : ByteArray) (w : World) (hs : s.size ≤ 1048700) :
    Calls Tryd.prog 34 #[.string s] w fun e w' => e = .returned (.string (ofL (quoteL s.data.toList))) ∧ Below w.heap.size w w' := c34 s w hs
theorem c16' (s : ByteArray) (w : World) (hs : s.size ≤ 1048700) :
    Calls Tryd.prog 16 #[.string s] w fun e w' => e = .returned (.string (ofL (quoteL s.data.toList))) ∧ Below w.heap.size w w' := c16 s w hs
theorem ofL_data (s : ByteArray) : ofL s.data.toList = s := rfl
/-- A make's text. -/
def bodyL (x : M3) : List UInt8 := x.nm.data.toList ++ [32] ++ x.tl.data.toList ++ [32] ++ quoteL x.ar.data.toList
def makeL (x : M3) : List UInt8 := [109, 97, 107, 101, 32] ++ bodyL x ++ [10]

set_option maxHeartbeats 1000000 in
theorem c21 (x : M3) (w : World) (hok : okM x = true) :
    Calls Tryd.prog 21 #[.agg #[.string x.nm, .string x.tl, .string x.ar]] w fun e w' => e = .returned (.string (ofL (bodyL x))) ∧ Below w.heap.size w w' := by
  obtain ⟨hl1, hl2, hl3⟩ : x.nm.size ≤ 20 ∧ x.tl.size ≤ 20 ∧ x.ar.size ≤ 300 := by
    simp [okM, nameOk] at hok
    exact ⟨hok.1.1.1.2, hok.1.2.1.2, by omega⟩
  have s3 : (ofL (quoteL x.ar.data.toList)).size ≤ 902 := by
    have := quote_len x.ar.data.toList
    have e : x.ar.data.toList.length = x.ar.size := by simp
    rw [ofL_size]; omega
  have HV : Hid (ofL (bodyL x) = x.nm ++ (⟨#[32]⟩ : ByteArray) ++ x.tl ++ (⟨#[32]⟩ : ByteArray) ++ ofL (quoteL x.ar.data.toList)) := by
    show ofL (bodyL x) = _
    rw [one_ofL, ← ofL_data x.nm, ← ofL_data x.tl]
    simp only [cat_ofL]
    rfl
  clear hok
  have k1 : ¬ 9223372036854775807 < x.nm.size + 1 := by omega
  have k1' : ¬ 9223372036854775807 ≤ x.nm.size := by omega
  have k2 : ¬ 9223372036854775807 < x.nm.size + 1 + x.tl.size := by omega
  have k3 : ¬ 9223372036854775807 < x.nm.size + 1 + x.tl.size + 1 := by omega
  have k3' : ¬ 9223372036854775807 ≤ x.nm.size + 1 + x.tl.size := by omega
  have k4 : ¬ 9223372036854775807 < x.nm.size + 1 + x.tl.size + 1 + (ofL (quoteL x.ar.data.toList)).size := by omega
  go_enter Tryd.func21, Tryd.ntmps21
  go_wp2_with fail
  have hB0 : Below w.heap.size w (w.alloc (.cells #[.string x.nm, .string x.tl, .string x.ar] 36)) := (Below.refl _ _).alloc (Nat.le_refl _) _
  have f0 : (w.alloc (.cells #[.string x.nm, .string x.tl, .string x.ar] 36)).cell? ⟨w.heap.size, 0, none⟩ = some (.string x.nm) := by simp
  have f1 : (w.alloc (.cells #[.string x.nm, .string x.tl, .string x.ar] 36)).cell? ⟨w.heap.size, 1, none⟩ = some (.string x.tl) := by simp
  have f2 : (w.alloc (.cells #[.string x.nm, .string x.tl, .string x.ar] 36)).cell? ⟨w.heap.size, 2, none⟩ = some (.string x.ar) := by simp
  have hz : w.heap.size < (w.alloc (.cells #[.string x.nm, .string x.tl, .string x.ar] 36)).heap.size := by simp
  generalize (w.alloc (.cells #[.string x.nm, .string x.tl, .string x.ar] 36)) = W at *
  go_region_held3 (fun u => u.cell? ⟨w.heap.size, 0, none⟩ = some (.string x.nm) ∧ u.cell? ⟨w.heap.size, 1, none⟩ = some (.string x.tl) ∧ u.cell? ⟨w.heap.size, 2, none⟩ = some (.string x.ar)) (go_keep) (first | (go_at_call 34; refine (c34' x.ar _ (by omega)).mono ?_; rintro e w1 ⟨rfl, hb1⟩; have HB1 : Hid (Below w.heap.size w w1) := hB0.trans (((Below.refl _ _).drew.trans hb1).mono (Nat.le_of_lt hz)); have e0 := (hb1.cell (p := ⟨w.heap.size, 0, none⟩) (by simpa using hz)).trans f0; have e1 := (hb1.cell (p := ⟨w.heap.size, 1, none⟩) (by simpa using hz)).trans f1; have e2 := (hb1.cell (p := ⟨w.heap.size, 2, none⟩) (by simpa using hz)).trans f2))
  all_goals go_wp2
  all_goals go_ret
  all_goals exact ⟨ret_str HV.out.symm, HB1.out⟩
end Go.Proofs.YtjcgimlpnmbbbaaDoor
