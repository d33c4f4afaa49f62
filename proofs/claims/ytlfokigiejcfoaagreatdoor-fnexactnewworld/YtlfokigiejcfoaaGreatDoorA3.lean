import Derived.Test.YtlfokigiejcfoaaGreatDoorA2
namespace Go.Proofs.YtlfokigiejcfoaaGreatDoor
open Go.RowKit
/-- A slice's cells hold these. -/
def RI (w : World) (a : Option Addr) (xs : List Int) : Prop := xs = [] ∨ ∃ b, a = some ⟨b, 0, none⟩ ∧ b < w.heap.size ∧ ∀ i, i < xs.length → w.cell? ⟨b, i, none⟩ = some (.int .i64 (xs.getD i 0))
theorem RI.some {w : World} {a : Option Addr} {xs : List Int} (h : RI w a xs) : ∃ b, xs = [] ∨ (a = some ⟨b, 0, none⟩ ∧ b < w.heap.size ∧ ∀ i, i < xs.length → w.cell? ⟨b, i, none⟩ = some (.int .i64 (xs.getD i 0))) := by
  rcases h with h | ⟨b, h⟩
  · exact ⟨0, .inl h⟩
  · exact ⟨b, .inr h⟩
theorem RI.below {w w' : World} {a : Option Addr} {xs : List Int} (h : RI w a xs) (hb : Below w.heap.size w w') : RI w' a xs := by
  rcases h with h | ⟨b, h1, h2, h3⟩
  · exact .inl h
  · exact .inr ⟨b, h1, Nat.lt_of_lt_of_le h2 hb.size, fun i hi => by rw [hb.cell (by exact h2)]; exact h3 i hi⟩
/-- A slice's cells hold these. -/
def RS (w : World) (a : Option Addr) (xs : List ByteArray) : Prop := xs = [] ∨ ∃ b, a = some ⟨b, 0, none⟩ ∧ b < w.heap.size ∧ ∀ i, i < xs.length → w.cell? ⟨b, i, none⟩ = some (.string (xs.getD i ⟨#[]⟩))
theorem RS.some {w : World} {a : Option Addr} {xs : List ByteArray} (h : RS w a xs) : ∃ b, xs = [] ∨ (a = some ⟨b, 0, none⟩ ∧ b < w.heap.size ∧ ∀ i, i < xs.length → w.cell? ⟨b, i, none⟩ = some (.string (xs.getD i ⟨#[]⟩))) := by
  rcases h with h | ⟨b, h⟩
  · exact ⟨0, .inl h⟩
  · exact ⟨b, .inr h⟩
theorem RS.below {w w' : World} {a : Option Addr} {xs : List ByteArray} (h : RS w a xs) (hb : Below w.heap.size w w') : RS w' a xs := by
  rcases h with h | ⟨b, h1, h2, h3⟩
  · exact .inl h
  · exact .inr ⟨b, h1, Nat.lt_of_lt_of_le h2 hb.size, fun i hi => by rw [hb.cell (by exact h2)]; exact h3 i hi⟩
set_option maxHeartbeats 2000000 in
theorem c35 (xs : List Int) (a a' : Option Addr) (cap cap' : Nat) (w : World) (hl : xs.length ≤ 1000) (hat : RI w a xs) (hat' : RI w a' xs) :
    Calls Tryz.prog 35 #[.slice a xs.length cap, .slice a' xs.length cap'] w fun e w' => e = .returned (.bool true) ∧ Below w.heap.size w w' := by
  obtain ⟨b, hc⟩ := hat.some
  have HC : Hid (xs = [] ∨ (a = some ⟨b, 0, none⟩ ∧ b < w.heap.size ∧ ∀ i, i < xs.length → w.cell? ⟨b, i, none⟩ = some (.int .i64 (xs.getD i 0)))) := hc
  obtain ⟨b', hc'⟩ := hat'.some
  have HC' : Hid (xs = [] ∨ (a' = some ⟨b', 0, none⟩ ∧ b' < w.heap.size ∧ ∀ i, i < xs.length → w.cell? ⟨b', i, none⟩ = some (.int .i64 (xs.getD i 0)))) := hc'
  clear hc hat hc' hat'
  go_enter Tryz.func35, Tryz.ntmps35
  go_wp2_with fail
  go_loopw [5] (fun i wr => ∃ (k : Nat), k ≤ xs.length ∧ i = .int .i64 k ∧ Below w.heap.size w wr) (fun i _ => xs.length - (intOf i).toNat)
  case atStart => exact ⟨0, Nat.zero_le _, rfl, Below.refl _ _⟩
  case round =>
    obtain ⟨k, hk, rfl, hb⟩ := hrel
    by_cases hlt : k < xs.length
    · rcases HC.out with hss | ⟨ha, hbw, hcell⟩
      · rw [hss] at hlt; exact absurd hlt (Nat.not_lt_zero _)
      rcases HC'.out with hss | ⟨ha', hbw', hcell'⟩
      · rw [hss] at hlt; exact absurd hlt (Nat.not_lt_zero _)
      subst ha
      subst ha'
      have g0 := (hb.cell (p := ⟨b, k, none⟩) hbw).trans (hcell k hlt)
      have g1 := (hb.cell (p := ⟨b', k, none⟩) hbw').trans (hcell' k hlt)
      generalize xs.getD k 0 = x at *
      clear hcell hcell'
      go_wp2_with fail
      go_region
      all_goals go_wp2
      all_goals go_roundw
      all_goals first
        | exact ⟨k + 1, by omega, by go_num, hb⟩
        | exact ⟨k + 1, by omega, by go_num, hb.drew⟩
        | (simp [intOf]; omega)
    · go_wp2
      go_ret
      exact ⟨rfl, hb⟩
set_option maxHeartbeats 2000000 in
theorem c36 (xs : List ByteArray) (a a' : Option Addr) (cap cap' : Nat) (w : World) (hl : xs.length ≤ 1000) (hat : RS w a xs) (hat' : RS w a' xs) :
    Calls Tryz.prog 36 #[.slice a xs.length cap, .slice a' xs.length cap'] w fun e w' => e = .returned (.bool true) ∧ Below w.heap.size w w' := by
  obtain ⟨b, hc⟩ := hat.some
  have HC : Hid (xs = [] ∨ (a = some ⟨b, 0, none⟩ ∧ b < w.heap.size ∧ ∀ i, i < xs.length → w.cell? ⟨b, i, none⟩ = some (.string (xs.getD i ⟨#[]⟩)))) := hc
  obtain ⟨b', hc'⟩ := hat'.some
  have HC' : Hid (xs = [] ∨ (a' = some ⟨b', 0, none⟩ ∧ b' < w.heap.size ∧ ∀ i, i < xs.length → w.cell? ⟨b', i, none⟩ = some (.string (xs.getD i ⟨#[]⟩)))) := hc'
  clear hc hat hc' hat'
  go_enter Tryz.func36, Tryz.ntmps36
  go_wp2_with fail
  go_loopw [5] (fun i wr => ∃ (k : Nat), k ≤ xs.length ∧ i = .int .i64 k ∧ Below w.heap.size w wr) (fun i _ => xs.length - (intOf i).toNat)
  case atStart => exact ⟨0, Nat.zero_le _, rfl, Below.refl _ _⟩
  case round =>
    obtain ⟨k, hk, rfl, hb⟩ := hrel
    by_cases hlt : k < xs.length
    · rcases HC.out with hss | ⟨ha, hbw, hcell⟩
      · rw [hss] at hlt; exact absurd hlt (Nat.not_lt_zero _)
      rcases HC'.out with hss | ⟨ha', hbw', hcell'⟩
      · rw [hss] at hlt; exact absurd hlt (Nat.not_lt_zero _)
      subst ha
      subst ha'
      have g0 := (hb.cell (p := ⟨b, k, none⟩) hbw).trans (hcell k hlt)
      have g1 := (hb.cell (p := ⟨b', k, none⟩) hbw').trans (hcell' k hlt)
      generalize xs.getD k ⟨#[]⟩ = x at *
      clear hcell hcell'
      go_wp2_with fail
      go_region
      all_goals go_wp2
      all_goals go_roundw
      all_goals first
        | exact ⟨k + 1, by omega, by go_num, hb⟩
        | exact ⟨k + 1, by omega, by go_num, hb.drew⟩
        | (simp [intOf]; omega)
    · go_wp2
      go_ret
      exact ⟨rfl, hb⟩
theorem adr_ne {b i j : Nat} (h : i ≠ j) : (⟨b, i, none⟩ : Addr) ≠ ⟨b, j, none⟩ := fun e => h (by injection e)
/-- A row that may be written. -/
def RO (w : World) (a : Option Addr) (b n : Nat) : Prop := n = 0 ∨ (a = some ⟨b, 0, none⟩ ∧ b < w.heap.size ∧ (∀ i, i < n → ∃ v, w.cell? ⟨b, i, none⟩ = some v) ∧ ∀ i, w.frozen? ⟨b, i, none⟩ = false)
/-- While numbers are marked. -/
structure MI (K : Int) (w0 w : World) (b n k : Nat) : Prop where
  os : w.os = w0.os
  tape : w.tape = w0.tape
  output : w.output = w0.output
  size : w0.heap.size ≤ w.heap.size
  block : ∀ j, j < w0.heap.size → j ≠ b → w.heap[j]? = w0.heap[j]?
  lt : b < w.heap.size
  opn : ∀ i, i < n → ∃ v, w.cell? ⟨b, i, none⟩ = some v
  frz : ∀ i, w.frozen? ⟨b, i, none⟩ = false
  done : ∀ i, i < k → w.cell? ⟨b, i, none⟩ = some (.int .i64 (K + (i : Int)))
theorem MI.set {K : Int} {w0 w : World} {b n k : Nat} (h : MI K w0 w b n k) (hk : k < n) : MI K w0 (w.setCell ⟨b, k, none⟩ (.int .i64 (K + (k : Int)))) b n (k + 1) := by
  obtain ⟨u, hu⟩ := h.opn k hk
  have q := (Below.refl b w).setCell (p := ⟨b, k, none⟩) (Nat.le_refl _) (.int .i64 (K + (k : Int)))
  refine ⟨q.os.trans h.os, q.tape.trans h.tape, q.output.trans h.output, Nat.le_trans h.size q.size, fun j hj hne => ?_, by simpa using h.lt, fun i hi => ?_, fun i => by have := h.frz i; simpa using this, fun i hi => ?_⟩
  · rw [← h.block j hj hne]; exact Below.heap_setCell _ _ _ _ hne
  · by_cases e : i = k
    · subst e; exact ⟨_, World.cell?_setCell_same _ _ _ hu⟩
    · rw [World.cell?_setCell_other _ _ _ _ (adr_ne (Ne.symm e))]; exact h.opn i hi
  · by_cases e : i = k
    · subst e; exact World.cell?_setCell_same _ _ _ hu
    · rw [World.cell?_setCell_other _ _ _ _ (adr_ne (Ne.symm e))]; exact h.done i (by omega)
set_option maxHeartbeats 2000000 in
theorem c45 (K : Int) (b n cap : Nat) (w : World) (hK1 : 0 ≤ K) (hK2 : K ≤ 5000000) (hn : n ≤ 1000) (ho : MI K w w b n 0) :
    Calls Tryz.prog 45 #[.slice (some ⟨b, 0, none⟩) n cap, .int .i64 K] w fun e w' => e = .returned (.int .i64 (K + (n : Int))) ∧ MI K w w' b n n := by
  have HO : Hid (MI K w w b n 0) := ho
  clear ho
  go_enter Tryz.func45, Tryz.ntmps45
  go_wp2_with fail
  go_loopw [1, 5] (fun q i wr => ∃ (k : Nat), k ≤ n ∧ i = .int .i64 k ∧ q = .int .i64 (K + (k : Int)) ∧ Hid (MI K w wr b n k)) (fun _ i _ => n - (intOf i).toNat)
  case atStart => exact ⟨0, Nat.zero_le _, rfl, by simp, HO⟩
  case round =>
    obtain ⟨k, hk, rfl, rfl, HI⟩ := hrel
    by_cases hlt : k < n
    · obtain ⟨v0, g0⟩ := HI.out.opn k hlt
      have f0 := HI.out.frz k
      go_wp2
      go_roundw
      case rel => exact ⟨k + 1, by omega, by go_num, by go_num, HI.out.set hlt⟩
      case measure => simp [intOf]; omega
    · obtain rfl : k = n := by omega
      go_wp2
      go_ret
      exact ⟨rfl, HI.out⟩
set_option maxHeartbeats 2000000 in
theorem c56 (K : Int) (b n cap : Nat) (w : World) (hK1 : 0 ≤ K) (hK2 : K ≤ 5000000) (hn : n ≤ 1000) (hbw : b < w.heap.size) (hm : ∀ i, i < n → w.cell? ⟨b, i, none⟩ = some (.int .i64 (K + (i : Int)))) :
    Calls Tryz.prog 56 #[.slice (some ⟨b, 0, none⟩) n cap, .int .i64 K] w fun e w' => e = .returned (.int .i64 (K + (n : Int))) ∧ Below w.heap.size w w' := by
  have HM : Hid (∀ i, i < n → w.cell? ⟨b, i, none⟩ = some (.int .i64 (K + (i : Int)))) := hm
  clear hm
  go_enter Tryz.func56, Tryz.ntmps56
  go_wp2_with fail
  go_loopw [1, 5] (fun q i wr => ∃ (k : Nat), k ≤ n ∧ i = .int .i64 k ∧ q = .int .i64 (K + (k : Int)) ∧ Below w.heap.size w wr) (fun _ i _ => n - (intOf i).toNat)
  case atStart => exact ⟨0, Nat.zero_le _, rfl, by simp, Below.refl _ _⟩
  case round =>
    obtain ⟨k, hk, rfl, rfl, hb⟩ := hrel
    by_cases hlt : k < n
    · have g0 := (hb.cell (p := ⟨b, k, none⟩) hbw).trans (HM.out k hlt)
      go_wp2
      go_roundw
      case rel => exact ⟨k + 1, by omega, by go_num, by go_num, hb⟩
      case measure => simp [intOf]; omega
    · obtain rfl : k = n := by omega
      go_wp2
      go_ret
      exact ⟨rfl, hb⟩
theorem conv1 (u : World) (y : Int) : (convert 128 9 (.slice (some ⟨u.heap.size, 0, none⟩) 1 1)).run Tryz.prog (u.alloc (.cells #[.int .u8 y] 5)) = .ok (.string (strOfNums [y])) (u.alloc (.cells #[.int .u8 y] 5)) :=
  run_convert_bytes_arg _ 128 5 Tryz.underlying128 Tryz.underlying5 _ 0 1 1 [y] rfl (fun i hi => by
    obtain rfl : i = 0 := by omega
    simp) 9 Tryz.underlying9
theorem convD (u : World) (y : Int) : (convert 128 9 (.slice (some ⟨u.heap.size, 0, none⟩) 1 1)).run Tryz.prog (u.alloc (.cells #[.int .u8 y] 5)).drew = .ok (.string (strOfNums [y])) (u.alloc (.cells #[.int .u8 y] 5)).drew :=
  run_convert_bytes_arg _ 128 5 Tryz.underlying128 Tryz.underlying5 _ 0 1 1 [y] rfl (fun i hi => by
    obtain rfl : i = 0 := by omega
    simp) 9 Tryz.underlying9
theorem s49 : strOfNums [49] ++ (⟨#[]⟩ : ByteArray) = ⟨#[49]⟩ := by
  apply ByteArray.ext
  simp [strOfNums]
theorem s1 (y : Int) : (strOfNums [y]).size = 1 := strOfNums_size [y]
set_option maxRecDepth 100000 in
set_option maxHeartbeats 2000000 in
theorem c49 (w : World) : Calls Tryz.prog 49 #[.int .i64 1] w fun e w' => e = .returned (.string ⟨#[109, 49]⟩) ∧ Below w.heap.size w w' := by
  have hcv := conv1
  have hcd := convD
  have hz := s1
  have hz0 : (⟨#[]⟩ : ByteArray).size = 0 := rfl
  have hz1 : (⟨#[49]⟩ : ByteArray).size = 1 := rfl
  go_enter Tryz.func49, Tryz.ntmps49
  go_wp2_with fail
  go_loopw [0, 3] (fun k o wr => ((k = .int .i64 1 ∧ o = .string ⟨#[]⟩) ∨ (k = .int .i64 0 ∧ o = .string ⟨#[49]⟩)) ∧ Below w.heap.size w wr) (fun k _ _ => (intOf k).toNat)
  case atStart => exact ⟨.inl ⟨rfl, rfl⟩, Below.refl _ _⟩
  case round =>
    obtain ⟨⟨rfl, rfl⟩ | ⟨rfl, rfl⟩, hb⟩ := hrel
    · go_wp2
      go_roundw
      case rel => exact ⟨.inr ⟨rfl, by rw [s49]⟩, hb.alloc hb.size _⟩
      case measure => simp [intOf]
    · go_wp2
      go_ret
      exact ⟨rfl, hb⟩
/-- All that is there stays, but for one block. -/
structure But (b : Nat) (w w' : World) : Prop where
  os : w'.os = w.os
  tape : w'.tape = w.tape
  output : w'.output = w.output
  size : w.heap.size ≤ w'.heap.size
  block : ∀ k, k < w.heap.size → k ≠ b → w'.heap[k]? = w.heap[k]?
theorem But.refl (b : Nat) (w : World) : But b w w := ⟨rfl, rfl, rfl, Nat.le_refl _, fun _ _ _ => rfl⟩
theorem But.trans {b : Nat} {u v w : World} (h : But b u v) (k : But b v w) : But b u w :=
  ⟨k.os.trans h.os, k.tape.trans h.tape, k.output.trans h.output, Nat.le_trans h.size k.size, fun i hi hne => (k.block i (Nat.lt_of_lt_of_le hi h.size) hne).trans (h.block i hi hne)⟩
theorem But.of_below {b : Nat} {w w' : World} (h : Below w.heap.size w w') : But b w w' := ⟨h.os, h.tape, h.output, h.size, fun k hk _ => h.block k hk⟩
theorem But.below {b B : Nat} {w w' : World} (h : But b w w') (hB : B ≤ b) (hz : B ≤ w.heap.size) : Below B w w' := ⟨h.os, h.tape, h.output, h.size, fun k hk => h.block k (by omega) (by omega)⟩
theorem But.setCell {b : Nat} {w w' : World} (h : But b w w') (j : Nat) (v : Value) : But b w (w'.setCell ⟨b, j, none⟩ v) := by
  have k := (Below.refl b w').setCell (p := ⟨b, j, none⟩) (Nat.le_refl _) v
  refine ⟨k.os.trans h.os, k.tape.trans h.tape, k.output.trans h.output, Nat.le_trans h.size k.size, fun i hi hne => ?_⟩
  rw [← h.block i hi hne]
  exact Below.heap_setCell _ _ _ _ hne
theorem But.cell {b : Nat} {w w' : World} (h : But b w w') {p : Addr} (hp : p.block < w.heap.size) (hne : p.block ≠ b) : w'.cell? p = w.cell? p := by
  unfold World.cell?
  rw [h.block p.block hp hne]
theorem MI.but {K : Int} {w0 w : World} {b n k : Nat} (h : MI K w0 w b n k) : But b w0 w := ⟨h.os, h.tape, h.output, h.size, h.block⟩
set_option maxHeartbeats 2000000 in
theorem c46 (b cap : Nat) (w : World) (v : Value) (hbw : b < w.heap.size) (hc : w.cell? ⟨b, 0, none⟩ = some v) (hf : w.frozen? ⟨b, 0, none⟩ = false) :
    Calls Tryz.prog 46 #[.slice (some ⟨b, 0, none⟩) 1 cap, .int .i64 1] w fun e w' => e = .returned (.int .i64 2) ∧ But b w w' ∧ w'.cell? ⟨b, 0, none⟩ = some (.string ⟨#[109, 49]⟩) := by
  go_enter Tryz.func46, Tryz.ntmps46
  go_wp2_with fail
  go_loopw [1, 5] (fun q i wr => But b w wr ∧ ((q = .int .i64 1 ∧ i = .int .i64 0 ∧ wr.cell? ⟨b, 0, none⟩ = some v ∧ wr.frozen? ⟨b, 0, none⟩ = false) ∨ (q = .int .i64 2 ∧ i = .int .i64 1 ∧ wr.cell? ⟨b, 0, none⟩ = some (.string ⟨#[109, 49]⟩)))) (fun _ i _ => 1 - (intOf i).toNat)
  case atStart => exact ⟨But.refl _ _, .inl ⟨rfl, rfl, hc, hf⟩⟩
  case round =>
    obtain ⟨hb, ⟨rfl, rfl, g0, f0⟩ | ⟨rfl, rfl, g0⟩⟩ := hrel
    · go_wp2_with fail
      refine (c49 _).mono ?_
      rintro e w1 ⟨rfl, hb1⟩
      have hbr : b < wr.heap.size := Nat.lt_of_lt_of_le hbw hb.size
      have g1 := (hb1.cell (p := ⟨b, 0, none⟩) hbr).trans g0
      have f1 := (hb1.frozen (p := ⟨b, 0, none⟩) hbr).trans f0
      have hB1 : But b w w1 := hb.trans (But.of_below hb1)
      clear hb1 hb g0 f0
      go_wp2
      go_roundw
      case rel => exact ⟨hB1.setCell _ _, .inr ⟨rfl, rfl, World.cell?_setCell_same _ _ _ g1⟩⟩
      case measure => simp [intOf]
    · go_wp2
      go_ret
      exact ⟨rfl, hb, g0⟩
set_option maxHeartbeats 2000000 in
theorem c57 (b cap : Nat) (w : World) (hbw : b < w.heap.size) (hc : w.cell? ⟨b, 0, none⟩ = some (.string ⟨#[109, 49]⟩)) :
    Calls Tryz.prog 57 #[.slice (some ⟨b, 0, none⟩) 1 cap, .int .i64 1] w fun e w' => e = .returned (.int .i64 2) ∧ Below w.heap.size w w' := by
  go_enter Tryz.func57, Tryz.ntmps57
  go_wp2_with fail
  go_loopw [1, 5] (fun q i wr => Below w.heap.size w wr ∧ ((q = .int .i64 1 ∧ i = .int .i64 0) ∨ (q = .int .i64 2 ∧ i = .int .i64 1))) (fun _ i _ => 1 - (intOf i).toNat)
  case atStart => exact ⟨Below.refl _ _, .inl ⟨rfl, rfl⟩⟩
  case round =>
    obtain ⟨hb, ⟨rfl, rfl⟩ | ⟨rfl, rfl⟩⟩ := hrel
    · have g0 := (hb.cell (p := ⟨b, 0, none⟩) hbw).trans hc
      go_wp2_with fail
      go_region_with (go_at_call 49; refine (c49 _).mono ?_; rintro e w1 ⟨rfl, hb1⟩; have hB1 : Below w.heap.size w w1 := (hb.drew).trans (hb1.mono hb.size); have g1 := (hB1.cell (p := ⟨b, 0, none⟩) hbw).trans hc)
      all_goals go_wp2
      all_goals go_roundw
      all_goals first
        | exact ⟨hB1, .inr ⟨rfl, rfl⟩⟩
        | simp [intOf]
    · go_wp2
      go_ret
      exact ⟨rfl, hb⟩
end Go.Proofs.YtlfokigiejcfoaaGreatDoor
