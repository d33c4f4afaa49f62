import Derived.Test.YtckbjbnmlmhihaaMathC
import Derived.Test.YtckbjbnmlmhihaaB1
import Derived.Maps.OwnSet
import Derived.DeepKeys4
namespace Go.Proofs.Ytckbjbnmlmhihaa
open Go.RowKit Go.Maps

theorem laidOut : laidOutB Try.prog = true := by kernel_rfl
theorem row50 : (50 : Nat) < Try.prog.types.size := of_decide_eq_true (by kernel_rfl)
theorem law : Keyed Try.prog 50 := Keyed.of_law (deep_law_laid laidOut (m := 2) (by omega) row50 (by kernel_rfl) (by kernel_rfl))
theorem cells50 : Try.prog.cellsOf 50 = 8 := by kernel_rfl
theorem cells5 : Try.prog.cellsOf 5 = 1 := by kernel_rfl
theorem kt50 : Try.prog.keyType 50 = true := by kernel_rfl
theorem zero3 (w : World) : (zeroValue 3).run Try.prog w = .ok (.int .i64 0) w := by kernel_rfl

/-- The key, and what it reads as. -/
def keyV (X : Int) (n : Nat) : Value := .agg #[.int .u8 (kc X n 0), .int .u8 (kc X n 1), .int .u8 (kc X n 2), .int .u8 (kc X n 3), .int .u8 (kc X n 4), .int .u8 (kc X n 5), .int .u8 (kc X n 6), .int .u8 (kc X n 7)]
def keyL (X : Int) (n : Nat) : Lit := .string (keyBytes [.int .u8 (kc X n 0), .int .u8 (kc X n 1), .int .u8 (kc X n 2), .int .u8 (kc X n 3), .int .u8 (kc X n 4), .int .u8 (kc X n 5), .int .u8 (kc X n 6), .int .u8 (kc X n 7)])
theorem kc_wf (X : Int) (n j : Nat) : (Lit.int .u8 (kc X n j)).wf = true := by
  have : 0 ≤ kc X n j ∧ kc X n j ≤ 255 := by unfold kc; split <;> omega
  simp [Lit.wf, IntKind.min, IntKind.max, IntKind.signed, IntKind.bits]; omega
theorem types_succ : ∃ m, Try.prog.types.size + 1 = m + 2 := ⟨Try.prog.types.size - 1, by have := row50; omega⟩
theorem hkey (X : Int) (n : Nat) : keyOf Try.prog 50 (keyV X n) = some (keyL X n) := by
  obtain ⟨m, hm⟩ := types_succ
  unfold keyOf
  rw [hm]
  simp [Try.underlying50, kt50, keyV, keyL, Value.formed, cells50, Program.keyLits, Try.underlying5, cells5, Value.cells, kc_wf, List.range, List.range.loop]
theorem keyL_inj {X Y : Int} {n : Nat} (hn : n ≤ 8) : keyL X n = keyL Y n ↔ outs X n = outs Y n := by
  constructor
  · intro h
    have := law.inj (hkey X n) (by rw [h]; exact hkey Y n)
    unfold keyV at this
    simp only [Value.agg.injEq, Array.mk.injEq, List.cons.injEq, Value.int.injEq] at this
    refine outs_of_kc hn fun j hj => ?_
    obtain rfl | rfl | rfl | rfl | rfl | rfl | rfl | rfl : j = 0 ∨ j = 1 ∨ j = 2 ∨ j = 3 ∨ j = 4 ∨ j = 5 ∨ j = 6 ∨ j = 7 := by omega
    all_goals simp_all
  · intro h
    have e := kc_of_outs hn h
    unfold keyL
    rw [e 0 (by omega), e 1 (by omega), e 2 (by omega), e 3 (by omega), e 4 (by omega), e 5 (by omega), e 6 (by omega), e 7 (by omega)]
theorem keyL_lit (X : Int) (n : Nat) : WideAt.IsKeyLit (keyL X n) := by trivial
/-- The keys of two texts are one just if their sums are. -/
theorem key_sum {s t : ByteArray} {n : Nat} (h1 : 1 ≤ n) (hn : n ≤ 8) : keyL (hsum s.data.toList) n = keyL (hsum t.data.toList) n ↔ sumS s n = sumS t n := by
  rw [keyL_inj hn]
  unfold sumS
  rw [if_pos (by omega), if_pos (by omega)]
  simp only [Int.toNat_natCast]
  constructor
  · intro h; rw [h]
  · exact str_inj (outs_range _ _) (outs_range _ _)
/-- the key of place i -/
def KK (ss : List ByteArray) (m : Nat) (i : Nat) : Lit := keyL (hsum (ss.getD i ByteArray.empty).data.toList) m
theorem KK_sum {ss : List ByteArray} {m : Nat} (h1 : 1 ≤ m) (hn : m ≤ 8) (i j : Nat) : KK ss m i = KK ss m j ↔ sumS (ss.getD i ByteArray.empty) m = sumS (ss.getD j ByteArray.empty) m := key_sum h1 hn
/-- no clash below k: -/
def NoCl (ss : List ByteArray) (m k : Nat) : Prop := ∀ j, j < k → ∀ i, i < j → ¬ Cl ss m i j
theorem noCl_new {H : Type} {D : DataW H} {ss : List ByteArray} {m k : Nat} (h1 : 1 ≤ m) (hn : m ≤ 8) (hmr : MapRel D (KK ss m) k) (hno : NoCl ss m k) (hf : has D (KK ss m k) = false) : NoCl ss m (k + 1) := by
  intro j hj i hi hc
  rcases Nat.lt_or_ge j k with h | h
  · exact hno j h i hi hc
  · obtain rfl : j = k := by omega
    have := ((hmr.2 (KK ss m j) (keyL_lit _ _)).1).2 ⟨i, hi, (KK_sum h1 hn i j).2 hc.1⟩
    rw [hf] at this; cases this
theorem noCl_same {ss : List ByteArray} {m k i0 : Nat} (h1 : 1 ≤ m) (hn : m ≤ 8) (hno : NoCl ss m k) (hK : KK ss m i0 = KK ss m k) (hfirst : ∀ i', i' < i0 → KK ss m i' ≠ KK ss m k)
    (hs : ss.getD i0 ByteArray.empty = ss.getD k ByteArray.empty) : NoCl ss m (k + 1) := by
  intro j hj i hi hc
  rcases Nat.lt_or_ge j k with h | h
  · exact hno j h i hi hc
  · obtain rfl : j = k := by omega
    have hKi := (KK_sum h1 hn i j).2 hc.1
    rcases Nat.lt_trichotomy i i0 with h | h | h
    · exact hfirst i h hKi
    · subst h; exact hc.2 hs
    · refine hno i hi i0 h ⟨(KK_sum h1 hn i0 i).1 (hK.trans hKi.symm), fun e => hc.2 (e.symm.trans hs)⟩
theorem clash_here {ss : List ByteArray} {m k i0 : Nat} (h1 : 1 ≤ m) (hn : m ≤ 8) (hl : ss.length ≤ 2000) (hk : k < ss.length) (hno : NoCl ss m k) (hi : i0 < k) (hK : KK ss m i0 = KK ss m k) (hfirst : ∀ i', i' < i0 → KK ss m i' ≠ KK ss m k)
    (hs : ss.getD i0 ByteArray.empty ≠ ss.getD k ByteArray.empty) : IsClash ss m (ss.getD i0 ByteArray.empty) (ss.getD k ByteArray.empty) true :=
  .inr ⟨rfl, ⟨by omega, hl⟩, i0, k, hi, hk, rfl, rfl, ⟨(KK_sum h1 hn i0 k).1 hK, hs⟩, fun i' h hc => hfirst i' h ((KK_sum h1 hn i' k).2 hc.1), fun j' h => hno j' h⟩
theorem clash_none {ss : List ByteArray} {m : Nat} (hno : NoCl ss m ss.length) : IsClash ss m ⟨#[]⟩ ⟨#[]⟩ false := .inl ⟨rfl, rfl, rfl, fun _ => hno⟩
theorem ownsMap_mono {H : Type} {w : World} {k : TypeId} {R : Value → Option (DataW H × List MemPlace)} {b n : Nat} {D : DataW H} (h : w.ownsMap Try.prog k R b n D) : w.ownsMap Try.prog k R b (n + 1) D := by
  obtain ⟨es, clock, h1, h2, h3, h4⟩ := h
  exact ⟨es, clock, h1, h2, by omega, h4⟩
theorem ownsMap_below {H : Type} {w w' : World} {k : TypeId} {R : Value → Option (DataW H × List MemPlace)} {b n B : Nat} {D : DataW H} (h : w.ownsMap Try.prog k R b n D) (hb : Below B w w') (hB : b < B) : w'.ownsMap Try.prog k R b n D := by
  obtain ⟨es, clock, h1, h2⟩ := h
  exact ⟨es, clock, by rw [hb.block b hB]; exact h1, h2⟩
/-- A slice's cells hold these texts. -/
def StrsAt (w : World) (a : Option Addr) (ss : List ByteArray) : Prop :=
  ss = [] ∨ ∃ b off, a = some ⟨b, off, none⟩ ∧ b < w.heap.size ∧ ∀ i, i < ss.length → w.cell? ⟨b, off + i, none⟩ = some (.string (ss.getD i ByteArray.empty))
theorem ret_three {x y x' y' : ByteArray} {f f' : Bool} (h : x = x') (h1 : y = y') (h2 : f = f') : Ending.returned (.tuple #[.string x, .string y, .bool f]) = .returned (.tuple #[.string x', .string y', .bool f']) := by rw [h, h1, h2]
end Go.Proofs.Ytckbjbnmlmhihaa
