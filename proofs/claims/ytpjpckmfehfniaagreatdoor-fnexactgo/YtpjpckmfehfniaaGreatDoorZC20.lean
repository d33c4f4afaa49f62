import Derived.Test.YtpjpckmfehfniaaGreatDoorZC19
import Derived.Test.YtpjpckmfehfniaaGreatDoorZC01
import Derived.Test.YtpjpckmfehfniaaGreatDoorZC02
namespace Go.Proofs.YtpjpckmfehfniaaGreatDoor
open Go.RowKit
set_option maxRecDepth 100000 in
set_option maxHeartbeats 2000000 in
theorem c89n (a : Option Addr) (cap : Nat) (T : List I3) (arg : ByteArray) (a2 : Option Addr) (cap2 : Nat) (reps : List R2) (w : World) (hs : ∀ i, (T.getD i i3z).tx.size ≤ 1048700) (hl : T.length ≤ 1048576) (hat : InsAt w a T) (hno : okT T = false ∨ 300 < arg.size ∨ 14 < reps.length) (hsh : ShapesAt w) (har : arg.size ≤ 1048576) (hrl : reps.length ≤ 1048576) :
    Calls Tryz.prog 89 #[.agg #[.slice a T.length cap], .string arg, .slice a2 reps.length cap2] w fun e w' => e = .returned (nextT T arg reps).v ∧ Below w.heap.size w w' := by
  have HIA : Hid (InsAt w a T) := hat
  have HZ : Hid (nextT T arg reps = zeroT) := next_no (by
    rcases hno with h | h | h
    · exact .inl h
    · exact .inr (.inl h)
    · exact .inr (.inr (.inl h)))
  have HSH : Hid (ShapesAt w) := hsh
  clear hat hsh
  have key : ∀ w1 : World, Below (w.heap.size + 2) (W0 a T.length cap w) w1 → Hid (Below w.heap.size w w1) := fun w1 h => (W0_below a T.length cap w).trans (h.mono (by omega))
  by_cases hok : okT T = true
  · have hno' : 300 < arg.size ∨ 14 < reps.length := by
      rcases hno with h | h
      · rw [hok] at h; cases h
      · exact h
    clear hno
    by_cases h300 : 300 < arg.size
    · clear hno'
      go_enter Tryz.func89, Tryz.ntmps89
      go_wp2_with fail
      refine (c119 a cap T (W0 a T.length cap w) hs hl (ins_below HIA.out (W0_below _ _ _ _)) (shapes_below HSH.out (W0_below _ _ _ _))).mono ?_
      rintro e w1 ⟨rfl, hb1⟩
      rw [hok]
      have hb : Below (w.heap.size + 2) (W0 a T.length cap w) w1 := by rw [W0_size] at hb1; exact hb1
      obtain ⟨⟨t0, q0, q1, q2, q3, q4, q5⟩, hfz⟩ := W0_cells hb
      go_wp2
      obtain ⟨s0, s1, s2, s3, s4, s5⟩ := set6 (z6_heap hb) (.bool false) (.int .i64 0) (.string ⟨#[]⟩) (.bool false) (.string ⟨#[]⟩) (.int .i64 0)
      refine bodyPost_ret (v := zeroT.v) (by simp [results, Tryz.results89, go_sem, s0, s1, s2, s3, s4, s5, zeroT, TN.v]) rfl ⟨by rw [HZ.out], ?_⟩
      exact (key w1 hb).out.trans (set6_below (by omega) _ _ _ _ _ _)
    · have h14 : 14 < reps.length := by omega
      clear hno'
      go_enter Tryz.func89, Tryz.ntmps89
      go_wp2_with fail
      refine (c119 a cap T (W0 a T.length cap w) hs hl (ins_below HIA.out (W0_below _ _ _ _)) (shapes_below HSH.out (W0_below _ _ _ _))).mono ?_
      rintro e w1 ⟨rfl, hb1⟩
      rw [hok]
      have hb : Below (w.heap.size + 2) (W0 a T.length cap w) w1 := by rw [W0_size] at hb1; exact hb1
      obtain ⟨⟨t0, q0, q1, q2, q3, q4, q5⟩, hfz⟩ := W0_cells hb
      go_wp2
      obtain ⟨s0, s1, s2, s3, s4, s5⟩ := set6 (z6_heap hb) (.bool false) (.int .i64 0) (.string ⟨#[]⟩) (.bool false) (.string ⟨#[]⟩) (.int .i64 0)
      refine bodyPost_ret (v := zeroT.v) (by simp [results, Tryz.results89, go_sem, s0, s1, s2, s3, s4, s5, zeroT, TN.v]) rfl ⟨by rw [HZ.out], ?_⟩
      exact (key w1 hb).out.trans (set6_below (by omega) _ _ _ _ _ _)
  · have hok' : okT T = false := by simpa using hok
    clear hno hok
    go_enter Tryz.func89, Tryz.ntmps89
    go_wp2_with fail
    refine (c119 a cap T (W0 a T.length cap w) hs hl (ins_below HIA.out (W0_below _ _ _ _)) (shapes_below HSH.out (W0_below _ _ _ _))).mono ?_
    rintro e w1 ⟨rfl, hb1⟩
    rw [hok']
    have hb : Below (w.heap.size + 2) (W0 a T.length cap w) w1 := by rw [W0_size] at hb1; exact hb1
    obtain ⟨⟨t0, q0, q1, q2, q3, q4, q5⟩, hfz⟩ := W0_cells hb
    go_wp2
    obtain ⟨s0, s1, s2, s3, s4, s5⟩ := set6 (z6_heap hb) (.bool false) (.int .i64 0) (.string ⟨#[]⟩) (.bool false) (.string ⟨#[]⟩) (.int .i64 0)
    refine bodyPost_ret (v := zeroT.v) (by simp [results, Tryz.results89, go_sem, s0, s1, s2, s3, s4, s5, zeroT, TN.v]) rfl ⟨by rw [HZ.out], ?_⟩
    exact (key w1 hb).out.trans (set6_below (by omega) _ _ _ _ _ _)
set_option maxRecDepth 100000 in
set_option maxHeartbeats 2000000 in
theorem c12 (x : TN) (w : World) :
    Calls Tryz.prog 12 #[x.v, x.v] w fun e w' => e = .returned (.bool true) ∧ Below w.heap.size w w' := by
  obtain ⟨o, c, t, h, n, k⟩ := x
  unfold TN.v
  simp only
  go_enter Tryz.func12, Tryz.ntmps12
  go_wp2_with fail
  refine (c42 ⟨c, t⟩ ((w.alloc (.cells #[.bool o, .int .i64 c, .string t, .bool h, .string n, .int .i64 k] 30)).alloc (.cells #[.bool o, .int .i64 c, .string t, .bool h, .string n, .int .i64 k] 30))).mono ?_
  rintro e w1 ⟨rfl, hb1⟩
  have hB : Below w.heap.size w w1 := (((Below.refl _ _).alloc (Nat.le_refl _) _).alloc (by simp) _).trans (hb1.mono (by simp; omega))
  have e3 : w1.cell? ⟨w.heap.size, 3, none⟩ = some (.bool h) := by rw [hb1.cell (by simp; omega)]; simp
  have e4 : w1.cell? ⟨w.heap.size, 4, none⟩ = some (.string n) := by rw [hb1.cell (by simp; omega)]; simp
  have e5 : w1.cell? ⟨w.heap.size, 5, none⟩ = some (.int .i64 k) := by rw [hb1.cell (by simp; omega)]; simp
  have i3 : w1.cell? ⟨w.heap.size + 1, 3, none⟩ = some (.bool h) := by rw [hb1.cell (by simp)]; simp
  have i4 : w1.cell? ⟨w.heap.size + 1, 4, none⟩ = some (.string n) := by rw [hb1.cell (by simp)]; simp
  have i5 : w1.cell? ⟨w.heap.size + 1, 5, none⟩ = some (.int .i64 k) := by rw [hb1.cell (by simp)]; simp
  clear hb1
  go_wp2
  go_ret
  exact ⟨rfl, hB⟩
end Go.Proofs.YtpjpckmfehfniaaGreatDoor
namespace Go.Proofs.YtpjpckmfehfniaaGreatDoor
open Go.RowKit
theorem c91 (c : Int) (t : ByteArray) (w : World) :
    Calls Tryz.prog 91 #[.int .i64 c, .string t] w fun e w' => e = .returned (.agg #[.bool true, .int .i64 c, .string t, .bool false, .string ⟨#[]⟩, .int .i64 0]) ∧ Below w.heap.size w w' := by
  go_enter Tryz.func91, Tryz.ntmps91
  go_wp2
  refine bodyPost_ret (v := .agg #[.bool true, .int .i64 c, .string t, .bool false, .string ⟨#[]⟩, .int .i64 0]) (by simp [results, Tryz.results91, go_sem]) rfl ⟨rfl, ?_⟩
  exact (Below.refl _ _).alloc (Nat.le_refl _) _
theorem c39 (nm tl ar : ByteArray) (w : World) :
    Calls Tryz.prog 39 #[.agg #[.string nm, .string tl, .string ar]] w fun e w' => e = .returned (.agg #[.bool false, .int .i64 0, .string ⟨#[]⟩, .bool false, .string tl, .int .i64 0]) ∧ Below w.heap.size w w' := by
  go_enter Tryz.func39, Tryz.ntmps39
  go_wp2
  refine bodyPost_ret (v := .agg #[.bool false, .int .i64 0, .string ⟨#[]⟩, .bool false, .string tl, .int .i64 0]) (by simp [results, Tryz.results39, go_sem]) rfl ⟨rfl, ?_⟩
  exact ((Below.refl _ _).alloc (Nat.le_refl _) _).alloc (by simp) _
theorem c40 (nm tl ar : ByteArray) (w : World) :
    Calls Tryz.prog 40 #[.agg #[.string nm, .string tl, .string ar]] w fun e w' => ∃ b0 b1 b2 b3, e = .returned (.func (.func 88) #[] #[.pointer (some ⟨b0, 0, none⟩), .pointer (some ⟨b1, 0, none⟩), .pointer (some ⟨b2, 0, none⟩), .pointer (some ⟨b3, 0, none⟩)]) ∧ RunW w.heap.size b0 b1 b2 b3 w' nm tl ar rs0 (.slice none 0 0) (.slice none 0 0) ∧ Below w.heap.size w w' := by
  go_enter Tryz.func40, Tryz.ntmps40
  go_wp2
  go_ret
  refine ⟨w.heap.size + 1 + 1 + 1, w.heap.size + 1 + 1, w.heap.size + 1, w.heap.size, rfl, ⟨by omega, by omega, by omega, by omega, ?_, ?_, ?_, ?_, World.ownsRow_nil _ _ _ _, World.ownsRow_nil _ _ _ _⟩, ?_⟩
  · exact alloc_new (by simp) _
  · rw [Lib.alloc_old _ _ _ (by simp)]; exact alloc_new (by simp) _
  · rw [Lib.alloc_old _ _ _ (by first | (simp; done) | (simp; omega)), Lib.alloc_old _ _ _ (by simp)]; exact alloc_new (by simp) _
  · rw [Lib.alloc_old _ _ _ (by first | (simp; done) | (simp; omega)), Lib.alloc_old _ _ _ (by first | (simp; done) | (simp; omega)), Lib.alloc_old _ _ _ (by simp)]; exact alloc_new (by simp) _
  · exact ((((Below.refl _ _).alloc (Nat.le_refl _) _).alloc (by simp) _).alloc (by first | (simp; done) | (simp; omega)) _).alloc (by first | (simp; done) | (simp; omega)) _
end Go.Proofs.YtpjpckmfehfniaaGreatDoor
namespace Go.Proofs.YtpjpckmfehfniaaGreatDoor
open Go.RowKit

/-- A run's block: the builder that lies in it, and its fields. -/
structure RC where
  p : Value
  v : Value
  hand : ByteArray
  arg : ByteArray
  reps : Value
  looks : Int
  place : Int
  next : Int
  halted : Bool
  over : Bool
  code : Int
  text : ByteArray
  has : Bool
  name : ByteArray
  steps : Int
def RC.cells (r : RC) : Array Value := #[r.p, r.v, .string r.hand, .string r.arg, r.reps, .int .i64 r.looks, .int .i64 r.place, .int .i64 r.next, .bool r.halted, .bool r.over, .int .i64 r.code, .string r.text, .bool r.has, .string r.name, .int .i64 r.steps]
def RunAt (w : World) (b : Nat) (r : RC) : Prop := w.heap[b]? = some (.cells r.cells 164 (0, 0))
/-- Nothing turns below but the block b. -/
structure Kp (base b : Nat) (w w' : World) : Prop where
  os : w'.os = w.os
  tape : w'.tape = w.tape
  output : w'.output = w.output
  size : w.heap.size ≤ w'.heap.size
  block : ∀ k, k < base → k ≠ b → w'.heap[k]? = w.heap[k]?
theorem Kp.refl (base b : Nat) (w : World) : Kp base b w w := ⟨rfl, rfl, rfl, Nat.le_refl _, fun _ _ _ => rfl⟩
theorem Kp.trans {base b : Nat} {u v w : World} (h : Kp base b u v) (k : Kp base b v w) : Kp base b u w :=
  ⟨k.os.trans h.os, k.tape.trans h.tape, k.output.trans h.output, Nat.le_trans h.size k.size, fun i hi hne => (k.block i hi hne).trans (h.block i hi hne)⟩
theorem Kp.of_below {base b : Nat} {w w' : World} (h : Below w.heap.size w w') (hle : base ≤ w.heap.size) : Kp base b w w' := ⟨h.os, h.tape, h.output, h.size, fun k hk _ => h.block k (by omega)⟩
theorem Kp.of_base {base b : Nat} {w w' : World} (h : Below base w w') : Kp base b w w' := ⟨h.os, h.tape, h.output, h.size, fun k hk _ => h.block k hk⟩
theorem Kp.set {base b : Nat} {w w' : World} (h : Kp base b w w') (j : Nat) (x : Value) : Kp base b w (w'.setCell ⟨b, j, none⟩ x) :=
  ⟨h.os, h.tape, h.output, by simpa using h.size, fun k hk hne => by rw [heap_setCell_other w' ⟨b, j, none⟩ k x hne]; exact h.block k hk hne⟩
theorem Kp.cell {base b : Nat} {w w' : World} (h : Kp base b w w') {p : Addr} (hp : p.block < base) (hne : p.block ≠ b) : w'.cell? p = w.cell? p := by
  unfold World.cell?
  rw [h.block p.block hp hne]
theorem Kp.below {base b B : Nat} {w w' : World} (h : Kp base b w w') (hB : B ≤ b) (hz : B ≤ base) : Below B w w' := ⟨h.os, h.tape, h.output, h.size, fun k hk => h.block k (by omega) (by omega)⟩
/-- A run that goes on: its block, its out in a row of its own. -/
structure St (base b : Nat) (w : World) (r : RC) (out : List UInt8) : Prop where
  lt : b < base
  le : base ≤ w.heap.size
  run : RunAt w b r
  ptr : r.p = .pointer none ∨ r.p = .pointer (some ⟨b, 0, none⟩)
  own : w.ownsRow base 5 1 r.v out.length (Lib.byteCells out)
theorem own_set {w : World} {base b j : Nat} {e : TypeId} {size : Nat} {v x : Value} {n : Nat} {xs : List Value} (h : w.ownsRow base e size v n xs) (hb : b < base) : (w.setCell ⟨b, j, none⟩ x).ownsRow base e size v n xs := by
  obtain ⟨h1, h2⟩ := h
  refine ⟨h1, ?_⟩
  rcases h2 with h | ⟨g, cap, cur, hv, hg, hh, hr⟩
  · exact .inl h
  · refine .inr ⟨g, cap, cur, hv, hg, ?_, hr⟩
    rw [heap_setCell_other w ⟨b, j, none⟩ g x (by show g ≠ b; omega)]; exact hh
theorem run_set {w : World} {b : Nat} {r r' : RC} (h : RunAt w b r) (j : Nat) (x : Value) (he : r'.cells = r.cells.setIfInBounds j x) : RunAt (w.setCell ⟨b, j, none⟩ x) b r' := by
  unfold RunAt
  rw [heap_setCell_same w b j r.cells 164 x h, he]
theorem St.set {base b : Nat} {w : World} {r r' : RC} {out : List UInt8} (h : St base b w r out) (j : Nat) (x : Value) (he : r'.cells = r.cells.setIfInBounds j x) (hp : r'.p = r.p) (hv : r'.v = r.v) : St base b (w.setCell ⟨b, j, none⟩ x) r' out :=
  ⟨h.lt, by simpa using h.le, run_set h.run j x he, by rw [hp]; exact h.ptr, by rw [hv]; exact own_set h.own h.lt⟩
theorem St.below {base b : Nat} {w w' : World} {r : RC} {out : List UInt8} (h : St base b w r out) (hb : Below w.heap.size w w') : St base b w' r out :=
  ⟨h.lt, Nat.le_trans h.le hb.size, (hb.block b (Nat.lt_of_lt_of_le h.lt h.le)).trans h.run, h.ptr, ownsRow_below h.own hb⟩
theorem run_cell {w : World} {b : Nat} {r : RC} (h : RunAt w b r) (j : Nat) : w.cell? ⟨b, j, none⟩ = r.cells[j]? := Lib.cell_of_heap h j
theorem run_free {w : World} {b : Nat} {r : RC} (h : RunAt w b r) (j : Nat) : w.frozen? ⟨b, j, none⟩ = false := Lib.frozen_of_heap h j
theorem run_shape {w : World} {b : Nat} {r : RC} (h : RunAt w b r) : w.shape? b = some (164, 15) := by
  unfold RunAt at h
  simp [World.shape?, h, RC.cells]

theorem lies164 : liesAt Tryz.prog Tryz.prog.depth 164 (15 / Tryz.prog.cellsOf 164) 0 162 1 = true := by kernel_rfl
set_option maxHeartbeats 1000000 in
theorem check_fresh94 (b : Nat) (w : World) (h0 : w.cell? ⟨b, 0, none⟩ = some (.pointer none)) (hsh : w.shape? b = some (164, 15)) (hfz : w.frozen? ⟨b, 0, none⟩ = false) :
    Calls Tryz.prog 200 #[.pointer (some ⟨b, 0, none⟩)] w fun e w' => e = .returned (.tuple #[]) ∧ w' = w.setCell ⟨b, 0, none⟩ (.pointer (some ⟨b, 0, none⟩)) := by
  obtain ⟨j, hj, hjs⟩ := Option.map_eq_some_iff.1 info162
  have k1 := Lib.run_to_unsafe (P := Tryz.prog) w ⟨b, 0, none⟩ Tryz.underlying160 Tryz.underlying255 hj (by rw [hjs]; decide) hsh (Nat.zero_lt_succ 14)
  have k3 := Lib.run_from_unsafe (P := Tryz.prog) w ⟨b, 0, none⟩ Tryz.underlying255 Tryz.underlying160 hj hsh lies164
  have k2 : ∀ x, Sem.run Tryz.prog (callFunc 217 #[x]) w = .ok (.value x) w := fun x => by
    rw [run_callFunc_extern Tryz.func217 (by kernel_rfl) (by kernel_rfl) (by kernel_rfl) (e := Extern.AbiNoEscape.same) (by kernel_rfl)]
    rw [Lib.run_noEscape]
    rfl
  go_enter Tryz.func200, Tryz.ntmps200
  go_wp2
  go_end0
  exact ⟨rfl, rfl⟩

def RC.used (r : RC) (b : Nat) : RC := { r with p := .pointer (some ⟨b, 0, none⟩) }
theorem c200e (base b : Nat) (r : RC) (out : List UInt8) (w : World) (h : St base b w r out) :
    Calls Tryz.prog 200 #[.pointer (some ⟨b, 0, none⟩)] w fun e w' => e = .returned (.tuple #[]) ∧ St base b w' (r.used b) out ∧ Kp base b w w' := by
  have c0 := run_cell h.run 0
  rcases h.ptr with hp | hp
  · refine (check_fresh94 b w (by rw [c0]; show some r.p = _; rw [hp]) (run_shape h.run) (run_free h.run 0)).mono ?_
    rintro e w' ⟨rfl, rfl⟩
    exact ⟨rfl, ⟨h.lt, by simpa using h.le, run_set h.run 0 _ rfl, .inr rfl, own_set h.own h.lt⟩, (Kp.refl _ _ _).set 0 _⟩
  · refine (check_used b w (by rw [c0]; show some r.p = _; rw [hp])).mono ?_
    rintro e w' ⟨rfl, rfl⟩
    have hr : r.used b = r := by
      cases r
      simp only [RC.used] at hp ⊢
      rw [hp]
    exact ⟨rfl, by rw [hr]; exact h, Kp.refl _ _ _⟩

theorem byteCells_cat (a b : List UInt8) : Lib.byteCells a ++ Lib.byteCells b = Lib.byteCells (a ++ b) := by simp [Lib.byteCells]
theorem strCells_bytes (s : ByteArray) : Lib.strCells s = Lib.byteCells s.data.toList := by
  first
    | rfl
    | simp [Lib.strCells, Lib.byteCells]

set_option maxHeartbeats 1000000 in
set_option maxRecDepth 100000 in
theorem c191e (base b : Nat) (r : RC) (out : List UInt8) (s : ByteArray) (w : World) (h : St base b w r out) (hlen : out.length + s.size ≤ 140737488355328) :
    Calls Tryz.prog 191 #[.pointer (some ⟨b, 0, none⟩), .string s] w fun e w' => e = .returned (.tuple #[.int .i64 s.size, .nilIface]) ∧ (∃ v', St base b w' { r with p := .pointer (some ⟨b, 0, none⟩), v := v' } (out ++ s.data.toList)) ∧ Kp base b w w' := by
  obtain ⟨i0, hi, hz0, hz1, hz2⟩ := info_parts info5
  have HI : Hid (St base b w r out) := h
  clear h
  go_enter Tryz.func191, Tryz.ntmps191
  go_wp2_with fail
  refine (c200e base b r out w HI.out).mono ?_
  rintro e w1 ⟨rfl, ⟨hlt, hle, hbk, hpt, hown⟩, hb1⟩
  generalize hv : (r.used b).v = v at hown
  have HBK : Hid (RunAt w1 b (r.used b)) := hbk
  have HV : Hid ((r.used b).v = v) := hv
  have c1 : w1.cell? ⟨b, 1, none⟩ = some v := by rw [run_cell hbk 1, ← hv]; rfl
  have HK : Hid (Kp base b w w1) := hb1
  have HNE : Hid (v.ownBlock ≠ some b) := fun e => by have := (hown.lt _ e).1; omega
  clear hbk hb1 hv hpt
  go_wp2_with (at_builtin; refine Lib.wpList_append_own_string _ rfl _ _ 60 9 rfl base 5 i0 Tryz.underlying60 Tryz.underlying9 hi hz0 hz1 hz2 _ _ _ rfl hown s rfl (by unfold maxLen; omega) (by omega) hle ?_; intro v' w2 hown' hgrow _; have HB2 : Hid (RunAt w2 b (r.used b)) := app_keeps (v := v) HBK.out HNE.out hgrow; have HG : Hid (Kp base b w w2) := HK.out.trans (Kp.of_base ((Below.refl base w1).grown hgrow hle (fun k hk => (hown.lt k hk).1))); obtain ⟨ao, cp, rfl⟩ := row_form hown'; have d1 : w2.cell? ⟨b, 1, none⟩ = some v := (by rw [run_cell HB2.out 1, ← HV.out]; rfl); have f1 : w2.frozen? ⟨b, 1, none⟩ = false := run_free HB2.out 1; have hz2 : base ≤ w2.heap.size := Nat.le_trans hle hgrow.size; clear hgrow)
  go_ret2
  refine ⟨rfl, ⟨.slice ao (out.length + s.size) cp, hlt, by simpa using hz2, run_set HB2.out 1 _ rfl, .inr rfl, ?_⟩, HG.out.set 1 _⟩
  have h1 : (out ++ s.data.toList).length = out.length + s.size := by rw [List.length_append]; simp
  rw [h1, ← byteCells_cat, ← strCells_bytes]
  exact own_set hown' hlt

set_option maxHeartbeats 1000000 in
theorem c190e (base b : Nat) (r : RC) (out : List UInt8) (w : World) (h : St base b w r out) :
    Calls Tryz.prog 190 #[.pointer (some ⟨b, 0, none⟩)] w fun e w' => e = .returned (.int .i64 out.length) ∧ w' = w := by
  obtain ⟨ao, cp, hv⟩ := row_form h.own
  have c1 : w.cell? ⟨b, 1, none⟩ = some (.slice ao out.length cp) := by rw [run_cell h.run 1, ← hv]; rfl
  clear h hv
  go_enter Tryz.func190, Tryz.ntmps190
  go_wp2
  go_ret
  exact ⟨rfl, rfl⟩
end Go.Proofs.YtpjpckmfehfniaaGreatDoor
