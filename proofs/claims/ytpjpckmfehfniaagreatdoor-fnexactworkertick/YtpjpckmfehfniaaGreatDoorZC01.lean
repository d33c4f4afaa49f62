import Derived.Test.YtpjpckmfehfniaaGreatDoorZC00
import Derived.Outline
namespace Go.Proofs.YtpjpckmfehfniaaGreatDoor
open Go.RowKit
structure RC where
 p : Value
 v : Value
 hand : ByteArray
 arg : ByteArray
 reps : Value
 looks : Int
 place : Int
 next : Int
 halted : Bool
 over : Bool
 code : Int
 text : ByteArray
 has : Bool
 name : ByteArray
 steps : Int
def RC.cells (r : RC) : Array Value := #[r.p, r.v, .string r.hand, .string r.arg, r.reps, .int .i64 r.looks, .int .i64 r.place, .int .i64 r.next, .bool r.halted, .bool r.over, .int .i64 r.code, .string r.text, .bool r.has, .string r.name, .int .i64 r.steps]
def RunAt (w : World) (b : Nat) (r : RC) : Prop := w.heap[b]? = some (.cells r.cells 164 (0, 0))
structure Kp (base b : Nat) (w w' : World) : Prop where
 os : w'.os = w.os
 tape : w'.tape = w.tape
 output : w'.output = w.output
 size : w.heap.size ≤ w'.heap.size
 block : ∀ k, k < base → k ≠ b → w'.heap[k]? = w.heap[k]?
theorem Kp.refl (base b : Nat) (w : World) : Kp base b w w := ⟨rfl, rfl, rfl, Nat.le_refl _, fun _ _ _ => rfl⟩
theorem Kp.trans {base b : Nat} {u v w : World} (h : Kp base b u v) (k : Kp base b v w) : Kp base b u w :=
 ⟨k.os.trans h.os, k.tape.trans h.tape, k.output.trans h.output, Nat.le_trans h.size k.size, fun i hi hne => (k.block i hi hne).trans (h.block i hi hne)⟩
theorem Kp.of_below {base b : Nat} {w w' : World} (h : Below w.heap.size w w') (hle : base ≤ w.heap.size) : Kp base b w w' := ⟨h.os, h.tape, h.output, h.size, fun k hk _ => h.block k (by omega)⟩
theorem Kp.of_base {base b : Nat} {w w' : World} (h : Below base w w') : Kp base b w w' := ⟨h.os, h.tape, h.output, h.size, fun k hk _ => h.block k hk⟩
theorem Kp.set {base b : Nat} {w w' : World} (h : Kp base b w w') (j : Nat) (x : Value) : Kp base b w (w'.setCell ⟨b, j, none⟩ x) :=
 ⟨h.os, h.tape, h.output, by simpa using h.size, fun k hk hne => by rw [heap_setCell_other w' ⟨b, j, none⟩ k x hne]; exact h.block k hk hne⟩
theorem Kp.cell {base b : Nat} {w w' : World} (h : Kp base b w w') {p : Addr} (hp : p.block < base) (hne : p.block ≠ b) : w'.cell? p = w.cell? p := by
 unfold World.cell?
 rw [h.block p.block hp hne]
theorem Kp.below {base b B : Nat} {w w' : World} (h : Kp base b w w') (hB : B ≤ b) (hz : B ≤ base) : Below B w w' := ⟨h.os, h.tape, h.output, h.size, fun k hk => h.block k (by omega) (by omega)⟩
structure St (base b : Nat) (w : World) (r : RC) (out : List UInt8) : Prop where
 lt : b < base
 le : base ≤ w.heap.size
 run : RunAt w b r
 ptr : r.p = .pointer none ∨ r.p = .pointer (some ⟨b, 0, none⟩)
 own : w.ownsRow base 5 1 r.v out.length (Lib.byteCells out)
theorem own_set {w : World} {base b j : Nat} {e : TypeId} {size : Nat} {v x : Value} {n : Nat} {xs : List Value} (h : w.ownsRow base e size v n xs) (hb : b < base) : (w.setCell ⟨b, j, none⟩ x).ownsRow base e size v n xs := by
 obtain ⟨h1, h2⟩ := h
 refine ⟨h1, ?_⟩
 rcases h2 with h | ⟨g, cap, cur, hv, hg, hh, hr⟩
 · exact .inl h
 · refine .inr ⟨g, cap, cur, hv, hg, ?_, hr⟩
   rw [heap_setCell_other w ⟨b, j, none⟩ g x (by show g ≠ b; omega)]; exact hh
theorem run_set {w : World} {b : Nat} {r r' : RC} (h : RunAt w b r) (j : Nat) (x : Value) (he : r'.cells = r.cells.setIfInBounds j x) : RunAt (w.setCell ⟨b, j, none⟩ x) b r' := by
 unfold RunAt
 rw [heap_setCell_same w b j r.cells 164 x h, he]
theorem St.set {base b : Nat} {w : World} {r r' : RC} {out : List UInt8} (h : St base b w r out) (j : Nat) (x : Value) (he : r'.cells = r.cells.setIfInBounds j x) (hp : r'.p = r.p) (hv : r'.v = r.v) : St base b (w.setCell ⟨b, j, none⟩ x) r' out :=
 ⟨h.lt, by simpa using h.le, run_set h.run j x he, by rw [hp]; exact h.ptr, by rw [hv]; exact own_set h.own h.lt⟩
theorem St.below {base b : Nat} {w w' : World} {r : RC} {out : List UInt8} (h : St base b w r out) (hb : Below w.heap.size w w') : St base b w' r out :=
 ⟨h.lt, Nat.le_trans h.le hb.size, (hb.block b (Nat.lt_of_lt_of_le h.lt h.le)).trans h.run, h.ptr, ownsRow_below h.own hb⟩
theorem run_cell {w : World} {b : Nat} {r : RC} (h : RunAt w b r) (j : Nat) : w.cell? ⟨b, j, none⟩ = r.cells[j]? := Lib.cell_of_heap h j
theorem run_free {w : World} {b : Nat} {r : RC} (h : RunAt w b r) (j : Nat) : w.frozen? ⟨b, j, none⟩ = false := Lib.frozen_of_heap h j
theorem run_shape {w : World} {b : Nat} {r : RC} (h : RunAt w b r) : w.shape? b = some (164, 15) := by
 unfold RunAt at h
 simp [World.shape?, h, RC.cells]
theorem lies164 : liesAt Tryz.prog Tryz.prog.depth 164 (15 / Tryz.prog.cellsOf 164) 0 162 1 = true := by kernel_rfl
set_option maxHeartbeats 1000000 in
theorem check_fresh94 (b : Nat) (w : World) (h0 : w.cell? ⟨b, 0, none⟩ = some (.pointer none)) (hsh : w.shape? b = some (164, 15)) (hfz : w.frozen? ⟨b, 0, none⟩ = false) :
 Calls Tryz.prog 200 #[.pointer (some ⟨b, 0, none⟩)] w fun e w' => e = .returned (.tuple #[]) ∧ w' = w.setCell ⟨b, 0, none⟩ (.pointer (some ⟨b, 0, none⟩)) := by
 obtain ⟨j, hj, hjs⟩ := Option.map_eq_some_iff.1 info162
 have k1 := Lib.run_to_unsafe (P := Tryz.prog) w ⟨b, 0, none⟩ Tryz.underlying160 Tryz.underlying255 hj (by rw [hjs]; decide) hsh (Nat.zero_lt_succ 14)
 have k3 := Lib.run_from_unsafe (P := Tryz.prog) w ⟨b, 0, none⟩ Tryz.underlying255 Tryz.underlying160 hj hsh lies164
 have k2 : ∀ x, Sem.run Tryz.prog (callFunc 217 #[x]) w = .ok (.value x) w := fun x => by
  rw [run_callFunc_extern Tryz.func217 (by kernel_rfl) (by kernel_rfl) (by kernel_rfl) (e := Extern.AbiNoEscape.same) (by kernel_rfl)]
  rw [Lib.run_noEscape]
  rfl
 go_enter Tryz.func200, Tryz.ntmps200
 go_wp2
 go_end0
 exact ⟨rfl, rfl⟩
def RC.used (r : RC) (b : Nat) : RC := { r with p := .pointer (some ⟨b, 0, none⟩) }
theorem c200e (base b : Nat) (r : RC) (out : List UInt8) (w : World) (h : St base b w r out) :
 Calls Tryz.prog 200 #[.pointer (some ⟨b, 0, none⟩)] w fun e w' => e = .returned (.tuple #[]) ∧ St base b w' (r.used b) out ∧ Kp base b w w' := by
 have c0 := run_cell h.run 0
 rcases h.ptr with hp | hp
 · refine (check_fresh94 b w (by rw [c0]; show some r.p = _; rw [hp]) (run_shape h.run) (run_free h.run 0)).mono ?_
   rintro e w' ⟨rfl, rfl⟩
   exact ⟨rfl, ⟨h.lt, by simpa using h.le, run_set h.run 0 _ rfl, .inr rfl, own_set h.own h.lt⟩, (Kp.refl _ _ _).set 0 _⟩
 · refine (check_used b w (by rw [c0]; show some r.p = _; rw [hp])).mono ?_
   rintro e w' ⟨rfl, rfl⟩
   have hr : r.used b = r := by
    cases r
    simp only [RC.used] at hp ⊢
    rw [hp]
   exact ⟨rfl, by rw [hr]; exact h, Kp.refl _ _ _⟩
theorem byteCells_cat (a b : List UInt8) : Lib.byteCells a ++ Lib.byteCells b = Lib.byteCells (a ++ b) := by simp [Lib.byteCells]
theorem strCells_bytes (s : ByteArray) : Lib.strCells s = Lib.byteCells s.data.toList := by
 first
  | rfl
  | simp [Lib.strCells, Lib.byteCells]
set_option maxHeartbeats 1000000 in
set_option maxRecDepth 100000 in
theorem c191e (base b : Nat) (r : RC) (out : List UInt8) (s : ByteArray) (w : World) (h : St base b w r out) (hlen : out.length + s.size ≤ 140737488355328) :
 Calls Tryz.prog 191 #[.pointer (some ⟨b, 0, none⟩), .string s] w fun e w' => e = .returned (.tuple #[.int .i64 s.size, .nilIface]) ∧ (∃ v', St base b w' { r with p := .pointer (some ⟨b, 0, none⟩), v := v' } (out ++ s.data.toList)) ∧ Kp base b w w' := by
 obtain ⟨i0, hi, hz0, hz1, hz2⟩ := info_parts info5
 have HI : Hid (St base b w r out) := h
 clear h
 go_enter Tryz.func191, Tryz.ntmps191
 go_wp2_with fail
 refine (c200e base b r out w HI.out).mono ?_
 rintro e w1 ⟨rfl, ⟨hlt, hle, hbk, hpt, hown⟩, hb1⟩
 generalize hv : (r.used b).v = v at hown
 have HBK : Hid (RunAt w1 b (r.used b)) := hbk
 have HV : Hid ((r.used b).v = v) := hv
 have c1 : w1.cell? ⟨b, 1, none⟩ = some v := by rw [run_cell hbk 1, ← hv]; rfl
 have HK : Hid (Kp base b w w1) := hb1
 have HNE : Hid (v.ownBlock ≠ some b) := fun e => by have := (hown.lt _ e).1; omega
 clear hbk hb1 hv hpt
 go_wp2_with (at_builtin; refine Lib.wpList_append_own_string _ rfl _ _ 60 9 rfl base 5 i0 Tryz.underlying60 Tryz.underlying9 hi hz0 hz1 hz2 _ _ _ rfl hown s rfl (by unfold maxLen; omega) (by omega) hle ?_; intro v' w2 hown' hgrow _; have HB2 : Hid (RunAt w2 b (r.used b)) := app_keeps (v := v) HBK.out HNE.out hgrow; have HG : Hid (Kp base b w w2) := HK.out.trans (Kp.of_base ((Below.refl base w1).grown hgrow hle (fun k hk => (hown.lt k hk).1))); obtain ⟨ao, cp, rfl⟩ := row_form hown'; have d1 : w2.cell? ⟨b, 1, none⟩ = some v := (by rw [run_cell HB2.out 1, ← HV.out]; rfl); have f1 : w2.frozen? ⟨b, 1, none⟩ = false := run_free HB2.out 1; have hz2 : base ≤ w2.heap.size := Nat.le_trans hle hgrow.size; clear hgrow)
 go_ret2
 refine ⟨rfl, ⟨.slice ao (out.length + s.size) cp, hlt, by simpa using hz2, run_set HB2.out 1 _ rfl, .inr rfl, ?_⟩, HG.out.set 1 _⟩
 have h1 : (out ++ s.data.toList).length = out.length + s.size := by rw [List.length_append]; simp
 rw [h1, ← byteCells_cat, ← strCells_bytes]
 exact own_set hown' hlt
set_option maxHeartbeats 1000000 in
theorem c190e (base b : Nat) (r : RC) (out : List UInt8) (w : World) (h : St base b w r out) :
 Calls Tryz.prog 190 #[.pointer (some ⟨b, 0, none⟩)] w fun e w' => e = .returned (.int .i64 out.length) ∧ w' = w := by
 obtain ⟨ao, cp, hv⟩ := row_form h.own
 have c1 : w.cell? ⟨b, 1, none⟩ = some (.slice ao out.length cp) := by rw [run_cell h.run 1, ← hv]; rfl
 clear h hv
 go_enter Tryz.func190, Tryz.ntmps190
 go_wp2
 go_ret
 exact ⟨rfl, rfl⟩
end Go.Proofs.YtpjpckmfehfniaaGreatDoor
namespace Go.Proofs.YtpjpckmfehfniaaGreatDoor
open Go.RowKit
structure R2 where
 code : Int
 tx : ByteArray
def r2z : R2 := ⟨0, ⟨#[]⟩⟩
def ResAt (w : World) (a : Option Addr) (rs : List R2) : Prop :=
 rs = [] ∨ ∃ b off, a = some ⟨b, off, none⟩ ∧ b < w.heap.size ∧ ∀ i, i < rs.length → w.cell? ⟨b, off + i * 2, none⟩ = some (.int .i64 (rs.getD i r2z).code) ∧ w.cell? ⟨b, off + i * 2 + 1, none⟩ = some (.string (rs.getD i r2z).tx)
theorem res_some {w : World} {a : Option Addr} {rs : List R2} (h : ResAt w a rs) : ∃ b off, (rs = [] ∨ (a = some ⟨b, off, none⟩ ∧ b < w.heap.size ∧ ∀ i, i < rs.length → w.cell? ⟨b, off + i * 2, none⟩ = some (.int .i64 (rs.getD i r2z).code) ∧ w.cell? ⟨b, off + i * 2 + 1, none⟩ = some (.string (rs.getD i r2z).tx))) := by
 rcases h with h | ⟨b, off, h⟩
 · exact ⟨0, 0, .inl h⟩
 · exact ⟨b, off, .inr h⟩
theorem set2_at (u : World) (B j : Nat) (v0 v1 x0 x1 : Value) (h0 : u.cell? ⟨B, j, none⟩ = some x0) (h1 : u.cell? ⟨B, j + 1, none⟩ = some x1) :
 ((u.setCell ⟨B, j, none⟩ v0).setCell ⟨B, j + 1, none⟩ v1).cell? ⟨B, j, none⟩ = some v0 ∧ ((u.setCell ⟨B, j, none⟩ v0).setCell ⟨B, j + 1, none⟩ v1).cell? ⟨B, j + 1, none⟩ = some v1 := by
 have a1 : (u.setCell ⟨B, j, none⟩ v0).cell? ⟨B, j + 1, none⟩ = some x1 := by rw [World.cell?_setCell_other _ _ _ _ (adr_ne (by omega))]; exact h1
 refine ⟨?_, World.cell?_setCell_same _ _ _ a1⟩
 rw [World.cell?_setCell_other _ _ _ _ (adr_ne (by omega))]; exact World.cell?_setCell_same _ _ _ h0
theorem info28 : (Tryz.prog.info? 28).map (fun i => (i.zero, i.size, i.bytes)) = some (some (.agg #[.int .i64 0, .string ⟨#[]⟩]), 2, 24) := by kernel_rfl
end Go.Proofs.YtpjpckmfehfniaaGreatDoor
namespace Go.Proofs.YtpjpckmfehfniaaGreatDoor
open Go.RowKit
def RC.fin (r : RC) (c : Int) (t : ByteArray) : RC := { r with halted := true, over := true, code := c, text := t }
def RC.stop (r : RC) (h : Bool) : RC := { r with halted := true, has := h, name := r.hand }
def RC.looked (r : RC) (k : Int) : RC := { r with looks := k }
theorem Kp.alloc {base b : Nat} {w w' : World} (h : Kp base b w w') (hle : base ≤ w'.heap.size) (o : Obj) : Kp base b w (w'.alloc o) := h.trans (Kp.of_below ((Below.refl _ _).alloc (Nat.le_refl _) o) hle)
theorem Kp.drew {base b : Nat} {w w' : World} (h : Kp base b w w') : Kp base b w w'.drew := ⟨h.os, h.tape, h.output, h.size, h.block⟩
theorem run_alloc {w : World} {b : Nat} {r : RC} (h : RunAt w b r) (o : Obj) : RunAt (w.alloc o) b r := (Below.heap_alloc w o b (blk_lt h)).trans h
theorem run_below {w w' : World} {b : Nat} {r : RC} (h : RunAt w b r) (hb : Below w.heap.size w w') : RunAt w' b r := (hb.block b (blk_lt h)).trans h
theorem run_lt {w : World} {b : Nat} {r : RC} (h : RunAt w b r) : b < w.heap.size := blk_lt h
set_option maxHeartbeats 400000 in
theorem c134 (base b : Nat) (r : RC) (c : Int) (t : ByteArray) (w : World) (h : RunAt w b r) :
 Calls Tryz.prog 134 #[.pointer (some ⟨b, 0, none⟩), .int .i64 c, .string t] w fun e w' => e = .returned (.tuple #[]) ∧ RunAt w' b (r.fin c t) ∧ Kp base b w w' := by
 have HR : Hid (RunAt w b r) := h
 have hlt := run_lt h
 have c85 : w.cell? ⟨b, 8, none⟩ = some (.bool r.halted) := run_cell h 8
 have cx9 : w.cell? ⟨b, 9, none⟩ = some (.bool r.over) := run_cell h 9
 have cx10 : w.cell? ⟨b, 10, none⟩ = some (.int .i64 r.code) := run_cell h 10
 have cx11 : w.cell? ⟨b, 11, none⟩ = some (.string r.text) := run_cell h 11
 have f8 := run_free h 8
 have f9 := run_free h 9
 have f10 := run_free h 10
 have f11 := run_free h 11
 clear h
 go_enter Tryz.func134, Tryz.ntmps134
 go_wp2
 go_end0
 refine ⟨rfl, ?_, ((((Kp.refl base b w).set 8 _).set 9 _).set 10 _).set 11 _⟩
 unfold RunAt
 rw [heap_setCell_same _ b 11 _ 164 _ (heap_setCell_same _ b 10 _ 164 _ (heap_setCell_same _ b 9 _ 164 _ (heap_setCell_same _ b 8 _ 164 _ HR.out)))]
 rfl
set_option maxHeartbeats 400000 in
theorem c210 (base b : Nat) (r : RC) (hs : Bool) (w : World) (h : RunAt w b r) :
 Calls Tryz.prog 210 #[.pointer (some ⟨b, 0, none⟩), .bool hs] w fun e w' => e = .returned (.tuple #[]) ∧ RunAt w' b (r.stop hs) ∧ Kp base b w w' := by
 have HR : Hid (RunAt w b r) := h
 have hlt := run_lt h
 have c2 : w.cell? ⟨b, 2, none⟩ = some (.string r.hand) := run_cell h 2
 have c85 : w.cell? ⟨b, 8, none⟩ = some (.bool r.halted) := run_cell h 8
 have c35 : w.cell? ⟨b, 12, none⟩ = some (.bool r.has) := run_cell h 12
 have c90 : w.cell? ⟨b, 13, none⟩ = some (.string r.name) := run_cell h 13
 have f8 := run_free h 8
 have f12 := run_free h 12
 have f13 := run_free h 13
 clear h
 go_enter Tryz.func210, Tryz.ntmps210
 go_wp2
 go_end0
 refine ⟨rfl, ?_, (((Kp.refl base b w).set 8 _).set 12 _).set 13 _⟩
 unfold RunAt
 rw [heap_setCell_same _ b 13 _ 164 _ (heap_setCell_same _ b 12 _ 164 _ (heap_setCell_same _ b 8 _ 164 _ HR.out))]
 rfl
set_option maxHeartbeats 1000000 in
theorem c133 (base b : Nat) (r : RC) (n : Nat) (w : World) (h : RunAt w b r) (hn : r.place = n) (hs : n < 100) :
 Calls Tryz.prog 133 #[.pointer (some ⟨b, 0, none⟩)] w fun e w' => e = .returned (.tuple #[]) ∧ RunAt w' b (r.fin 2 (ofL (Lib.decDigits n))) ∧ Kp base b w w' := by
 have HR : Hid (RunAt w b r) := h
 have cx6 : w.cell? ⟨b, 6, none⟩ = some (.int .i64 n) := by rw [← hn]; exact run_cell h 6
 clear h
 go_enter Tryz.func133, Tryz.ntmps133
 go_wp2_with fail
 refine (Tryz.strconv_Itoa_small n hs w).mono ?_
 rintro e w1 ⟨rfl, hw⟩
 obtain rfl := hw.symm
 go_wp2_with fail
 refine (c134 base b r 2 (ofL (Lib.decDigits n)) w HR.out).mono ?_
 rintro e w2 ⟨rfl, h2, hk⟩
 have H2 : Hid (RunAt w2 b (r.fin 2 (ofL (Lib.decDigits n)))) := h2
 clear h2
 go_wp2
 go_end0
 exact ⟨rfl, H2.out, hk⟩
set_option maxHeartbeats 1000000 in
theorem c171e (base b : Nat) (r : RC) (out : List UInt8) (w : World) (h : St base b w r out) :
 Calls Tryz.prog 171 #[.pointer (some ⟨b, 0, none⟩)] w fun e w' => e = .returned (.string (ofL out)) ∧ RunAt w' b r ∧ Kp base b w w' := by
 have hUN : ∀ (W : World) (q : Option Addr), (Builtin.unsafeString_ #[240, 3] 9 #[.pointer q, .int .i64 0]).run Tryz.prog W = .ok (.string .empty) W := fun W q => Lib.run_unsafeString_none W _ _ _ q
 have HR : Hid (RunAt w b r) := h.run
 have hlt := h.lt
 have hle := h.le
 by_cases h0 : out = []
 · subst h0
   rcases h.own.2 with ⟨hv, _⟩ | ⟨g, cap, cur, hv, hg, hh, hnc, hcm, hcs, htake⟩
   · have c1 : w.drew.cell? ⟨b, 1, none⟩ = some (.slice none 0 0) := by
      show w.cell? ⟨b, 1, none⟩ = _
      rw [run_cell h.run 1, ← hv]; rfl
     have hSD : (Builtin.unsafeSliceData_ #[60] 240 #[.slice none 0 0]).run Tryz.prog w.drew = .ok (.pointer none) w.drew := rfl
     clear h
     go_enter Tryz.func171, Tryz.ntmps171
     go_wp2
     go_region
     all_goals (go_wp2; go_ret; exact ⟨rfl, HR.out, (Kp.refl base b w).drew⟩)
   · by_cases hc0 : cap = 0
     · subst hc0
       have hw1 : w.cell? ⟨b, 1, none⟩ = some (.slice (some ⟨g, 0, none⟩) 0 0) := by rw [run_cell h.run 1]; exact congrArg some hv
       have c1 : w.drew.cell? ⟨b, 1, none⟩ = some (.slice (some ⟨g, 0, none⟩) 0 0) := hw1
       have hSD : (Builtin.unsafeSliceData_ #[60] 240 #[.slice (some ⟨g, 0, none⟩) 0 0]).run Tryz.prog w.drew = .ok (.pointer (some ⟨w.drew.heap.size, 0, none⟩)) (w.drew.alloc (.view ⟨g, 0, none⟩ 5)) :=
        Lib.run_unsafeSliceData_zero w.drew _ _ 5 Tryz.underlying240 ⟨g, 0, none⟩ 0 (5, cur.size) (by have hg' : w.drew.heap[g]? = some (.cells cur 5 (0, 0)) := hh; simp [World.shape?, hg'])
       have hlt2 : b < w.heap.size := run_lt h.run
       have c2 : (w.drew.alloc (.view ⟨g, 0, none⟩ 5)).cell? ⟨b, 1, none⟩ = some (.slice (some ⟨g, 0, none⟩) 0 0) := by
        have : (w.drew.alloc (.view ⟨g, 0, none⟩ 5)).heap[b]? = _ := (Lib.alloc_old w.drew _ b hlt2).trans h.run
        rw [Lib.cell_of_heap this]; exact congrArg some hv
       have cx3 : (w.alloc (.view ⟨g, 0, none⟩ 5)).drew.cell? ⟨b, 1, none⟩ = some (.slice (some ⟨g, 0, none⟩) 0 0) := c2
       clear h
       go_enter Tryz.func171, Tryz.ntmps171
       go_wp2
       go_region
       all_goals (go_wp2; go_ret; exact ⟨rfl, run_alloc (w := w.drew) HR.out _, (Kp.refl base b w).drew.alloc hle _⟩)
     · have c1 : w.drew.cell? ⟨b, 1, none⟩ = some (.slice (some ⟨g, 0, none⟩) 0 cap) := by
        show w.cell? ⟨b, 1, none⟩ = _
        rw [run_cell h.run 1]; exact congrArg some hv
       have hSD : (Builtin.unsafeSliceData_ #[60] 240 #[.slice (some ⟨g, 0, none⟩) 0 cap]).run Tryz.prog w.drew = .ok (.pointer (some ⟨g, 0, none⟩)) w.drew :=
        Lib.run_unsafeSliceData_row _ _ _ _ _ _ hc0
       clear h hc0
       go_enter Tryz.func171, Tryz.ntmps171
       go_wp2
       go_region
       all_goals (go_wp2; go_ret; exact ⟨rfl, HR.out, (Kp.refl base b w).drew⟩)
 · have hl0 : out.length ≠ 0 := by simpa using h0
   have hown := h.own
   rcases h.own.2 with ⟨_, hz⟩ | ⟨g, cap, cur, hv, hg, hh, hnc, hcm, hcs, htake⟩
   · exact absurd hz hl0
   rw [hv] at hown
   have c1 : w.drew.cell? ⟨b, 1, none⟩ = some (.slice (some ⟨g, 0, none⟩) out.length cap) := by
    show w.cell? ⟨b, 1, none⟩ = _
    rw [run_cell h.run 1]; exact congrArg some hv
   have hSD : (Builtin.unsafeSliceData_ #[60] 240 #[.slice (some ⟨g, 0, none⟩) out.length cap]).run Tryz.prog w.drew = .ok (.pointer (some ⟨g, 0, none⟩)) w.drew :=
    Lib.run_unsafeSliceData_row _ _ _ _ _ _ (by omega)
   have hUS : (Builtin.unsafeString_ #[240, 3] 9 #[.pointer (some ⟨g, 0, none⟩), .int .i64 out.length]).run Tryz.prog w.drew = .ok (.string ⟨out.toArray⟩) (w.drew.freeze ⟨g, 0, none⟩ out.length) := by
    refine Lib.run_unsafeString_row w.drew 240 3 9 5 Tryz.underlying240 (by kernel_rfl) g cur.size (by have hg' : w.drew.heap[g]? = some (.cells cur 5 (0, 0)) := hh; simp [World.shape?, hg']) out h0 (by omega) (by unfold maxLen at hcm; omega) ?_
    intro j x hx
    exact hown.cells (g := g) rfl j (.int .u8 x.toNat) (by simp [Lib.byteCells, hx])
   have HB : Hid (Below base w (w.drew.freeze ⟨g, 0, none⟩ out.length)) := Lib.below_freeze (Below.drew (Below.refl base w)) (p := ⟨g, 0, none⟩) hg _
   clear h hown htake hcs hcm hnc hh hl0 h0 hUN
   go_enter Tryz.func171, Tryz.ntmps171
   go_wp2
   go_region
   all_goals (go_wp2; go_ret; exact ⟨rfl, (HB.out.block b hlt).trans HR.out, Kp.of_base HB.out⟩)
end Go.Proofs.YtpjpckmfehfniaaGreatDoor
namespace Go.Proofs.YtpjpckmfehfniaaGreatDoor
open Go.RowKit
def usesTo (op : Int) : Bool := op == 7 || op == 8 || op == 9
def usesTx (op : Int) : Bool := op == 1 || op == 6 || op == 8
def okI (x : I3) : Bool := decide (1 ≤ x.op ∧ x.op ≤ 11) && (usesTo x.op || x.to == 0) && (usesTx x.op || x.tx.toList.isEmpty) && decide (0 ≤ x.to ∧ x.to ≤ 40) && decide ((x.tx.size : Int) ≤ 300)
def word (op : Int) : List UInt8 := if op = 1 then [108, 105, 116] else if op = 2 then [97, 114, 103] else if op = 3 then [97, 115, 107] else if op = 4 then [104, 97, 115] else if op = 5 then [112, 117, 116] else if op = 6 then [99, 97, 116] else if op = 7 then [108, 105, 110, 101] else if op = 8 then [105, 102] else if op = 9 then [103, 111] else if op = 10 then [101, 110, 100] else if op = 11 then [102, 97, 105, 108] else []
def wordA (op : Int) : ByteArray := ⟨(word op).toArray⟩
def ShapesAt (w : World) : Prop := ∀ op : Nat, 1 ≤ op → op ≤ 11 → w.cell? ⟨0, op * 3, none⟩ = some (.string (wordA op)) ∧ w.cell? ⟨0, op * 3 + 1, none⟩ = some (.bool (usesTo op)) ∧ w.cell? ⟨0, op * 3 + 2, none⟩ = some (.bool (usesTx op))
theorem shapes_pos {w : World} (h : ShapesAt w) : 0 < w.heap.size := by
 obtain ⟨a, _⟩ := h 1 (by omega) (by omega)
 rcases Nat.eq_zero_or_pos w.heap.size with h | h
 · simp [World.cell?, Array.getElem?_eq_none (show w.heap.size ≤ 0 by omega)] at a
 · exact h
theorem cell_past {w : World} {j : Nat} {v : Value} (h0 : 0 < w.heap.size) (h : w.cell? ⟨0, j, none⟩ = some v) : ∀ o, (w.alloc o).cell? ⟨0, j, none⟩ = some v := fun o => by
 rw [((Below.refl w.heap.size w).alloc (Nat.le_refl _) o).cell (by exact h0)]; exact h
theorem shapes_below {w w' : World} (h : ShapesAt w) (hb : Below w.heap.size w w') : ShapesAt w' := by
 intro op h1 h2
 obtain ⟨a, b, c⟩ := h op h1 h2
 have h0 : 0 < w.heap.size := by
  rcases Nat.eq_zero_or_pos w.heap.size with h | h
  · simp [World.cell?, Array.getElem?_eq_none (show w.heap.size ≤ 0 by omega)] at a
  · exact h
 rw [hb.cell (by exact h0), hb.cell (by exact h0), hb.cell (by exact h0)]
 exact ⟨a, b, c⟩
set_option maxHeartbeats 1000000 in
theorem c131_in (op : Nat) (tx : ByteArray) (to : Int) (w : World) (_hs : tx.size ≤ 1048700) (h1 : 1 ≤ op) (h2 : op ≤ 11) (hsh : ShapesAt w) :
 Calls Tryz.prog 131 #[.agg #[.int .i64 op, .string tx, .int .i64 to]] w fun e w' => e = .returned (.bool (okI ⟨op, tx, to⟩)) ∧ Below w.heap.size w w' := by
 obtain ⟨a0, b0, c0⟩ := hsh op h1 h2
 have h0 := shapes_pos hsh
 have a := cell_past h0 a0
 have b := cell_past h0 b0
 have c := cell_past h0 c0
 clear hsh a0 b0 c0
 have HO : Hid (okI ⟨op, tx, to⟩ = ((usesTo op || to == 0) && (usesTx op || tx.toList.isEmpty) && decide (0 ≤ to ∧ to ≤ 40) && decide ((tx.size : Int) ≤ 300))) := by
  unfold okI; simp only [show decide ((1 : Int) ≤ (op : Int) ∧ (op : Int) ≤ 11) = true by simp; omega, Bool.true_and]; trivial
 have ho1 : (1 : Int) ≤ (op : Int) := by omega
 have ho2 : (op : Int) ≤ 11 := by omega
 generalize usesTo op = tO at *
 generalize usesTx op = tX at *
 have hB : ∀ o1 o2 : Obj, Below w.heap.size w ((w.alloc o1).alloc o2) := fun o1 o2 => ((Below.refl _ _).alloc (Nat.le_refl _) _).alloc (by simp) _
 cases tO <;> cases tX
 all_goals
  go_enter Tryz.func131, Tryz.ntmps131
  go_wp2
  all_goals go_ret
  all_goals refine ⟨ret_bool ?_, hB _ _⟩
  all_goals rw [HO.out]
  all_goals clear a b c HO hB h1 h2 ho1 ho2
  all_goals first | (simp_all; done) | (simp_all; omega)
set_option maxHeartbeats 1000000 in
theorem c131 (x : I3) (w : World) (hs : x.tx.size ≤ 1048700) (hsh : ShapesAt w) :
 Calls Tryz.prog 131 #[.agg #[.int .i64 x.op, .string x.tx, .int .i64 x.to]] w fun e w' => e = .returned (.bool (okI x)) ∧ Below w.heap.size w w' := by
 by_cases h : 1 ≤ x.op ∧ x.op ≤ 11
 · obtain ⟨n, hn⟩ := Int.eq_ofNat_of_zero_le (show 0 ≤ x.op by omega)
   have := c131_in n x.tx x.to w hs (by omega) (by omega) hsh
   rw [← hn] at this
   exact this
 · have HO : Hid (okI x = false) := by unfold okI; rw [show decide (1 ≤ x.op ∧ x.op ≤ 11) = false by simpa using h]; rfl
   clear hsh
   have hc : x.op < 1 ∨ 11 < x.op := by omega
   rcases hc with hc | hc
   all_goals
    go_enter Tryz.func131, Tryz.ntmps131
    go_wp2
    all_goals go_ret
    all_goals exact ⟨ret_bool HO.out.symm, (Below.refl _ _).alloc (Nat.le_refl _) _⟩
def okT (is : List I3) : Bool := decide (1 ≤ is.length ∧ is.length ≤ 40) && is.all okI
theorem all_snoc {is : List I3} {k : Nat} (h : k < is.length) (ha : (is.take k).all okI = true) (hx : okI (is.getD k i3z) = true) : (is.take (k + 1)).all okI = true := by
 rw [List.take_succ_eq_append_getElem h, List.all_append, ha]
 have e : is.getD k i3z = is[k] := by simp [h]
 rw [e] at hx
 simp [hx]
theorem all_not {is : List I3} {k : Nat} (h : k < is.length) (hx : okI (is.getD k i3z) = false) : is.all okI = false := by
 rw [List.all_eq_false]
 have e : is.getD k i3z = is[k] := by simp [h]
 rw [e] at hx
 exact ⟨is[k], List.getElem_mem h, by simp [hx]⟩
set_option maxHeartbeats 1000000 in
theorem c119 (a : Option Addr) (cap : Nat) (is : List I3) (w : World) (hs : ∀ i, (is.getD i i3z).tx.size ≤ 1048700) (hl : is.length ≤ 1048576) (hat : InsAt w a is) (hsh : ShapesAt w) :
 Calls Tryz.prog 119 #[.agg #[.slice a is.length cap]] w fun e w' => e = .returned (.bool (okT is)) ∧ Below w.heap.size w w' := by
 by_cases hn : 1 ≤ is.length ∧ is.length ≤ 40
 · have HO : Hid (okT is = is.all okI) := by unfold okT; rw [show decide (1 ≤ is.length ∧ is.length ≤ 40) = true by simpa using hn]; rfl
   obtain ⟨hn1, hn2⟩ := hn
   have h0 := shapes_pos hsh
   have HSH : Hid (ShapesAt w) := hsh
   obtain ⟨b, off, hc⟩ := ins_some hat
   rcases hc with hc | ⟨rfl, hbw, hcell⟩
   · rw [hc] at hn1; simp at hn1
   clear hat hsh
   go_enter Tryz.func119, Tryz.ntmps119
   go_wp2_with fail
   go_loopw [18] (fun i wr => ∃ (k : Nat), k ≤ is.length ∧ i = .int .i64 k ∧ Below w.heap.size w wr ∧ Hid ((is.take k).all okI = true)) (fun i _ => is.length - (intOf i).toNat)
   case atStart => exact ⟨0, Nat.zero_le _, rfl, (Below.refl _ _).alloc (Nat.le_refl _) _, rfl⟩
   case round =>
    obtain ⟨k, hk, rfl, hb, hall⟩ := hrel
    by_cases hlt : k < is.length
    · have g0 := (hb.cell (p := ⟨b, off + k * 3, none⟩) hbw).trans (hcell k hlt).1
      have g1 := (hb.cell (p := ⟨b, off + k * 3 + 1, none⟩) hbw).trans (hcell k hlt).2.1
      have g2 := (hb.cell (p := ⟨b, off + k * 3 + 2, none⟩) hbw).trans (hcell k hlt).2.2
      have hxs := hs k
      generalize hx : is.getD k i3z = x at *
      have HX : Hid (is.getD k i3z = x) := hx
      clear hx
      have HCE : Hid (∀ i, i < is.length → w.cell? ⟨b, off + i * 3, none⟩ = some (.int .i64 (is.getD i i3z).op) ∧ w.cell? ⟨b, off + i * 3 + 1, none⟩ = some (.string (is.getD i i3z).tx) ∧ w.cell? ⟨b, off + i * 3 + 2, none⟩ = some (.int .i64 (is.getD i i3z).to)) := hcell
      clear hcell
      go_wp2_with fail
      refine (c131 x _ hxs (shapes_below HSH.out (hb.alloc hb.size _))).mono ?_
      rintro e w1 ⟨rfl, hb1⟩
      have hB1 : Below w.heap.size w w1 := (hb.alloc hb.size _).trans (hb1.mono (by have := hb.size; simp; omega))
      cases hok : okI x
      · have HN : Hid (okT is = false) := by rw [HO.out]; exact all_not hlt (by rw [HX.out]; exact hok)
        clear hok
        go_wp2
        go_ret
        exact ⟨ret_bool HN.out.symm, hB1⟩
      · have hall' : Hid ((is.take (k + 1)).all okI = true) := all_snoc hlt hall.out (by rw [HX.out]; exact hok)
        clear hok
        go_wp2
        go_roundw
        case rel => exact ⟨k + 1, by omega, by go_num, hB1, hall'⟩
        case measure => simp [intOf]; omega
    · have HN : Hid (okT is = true) := by rw [HO.out]; have := hall.out; rwa [List.take_of_length_le (by omega)] at this
      go_wp2
      go_ret
      exact ⟨ret_bool HN.out.symm, hb⟩
 · have HO : Hid (okT is = false) := by unfold okT; rw [show decide (1 ≤ is.length ∧ is.length ≤ 40) = false by simpa using hn]; rfl
   clear hat hsh
   by_cases h1 : 1 ≤ is.length
   all_goals
    go_enter Tryz.func119, Tryz.ntmps119
    go_wp2
    all_goals go_ret
    all_goals exact ⟨ret_bool HO.out.symm, (Below.refl _ _).alloc (Nat.le_refl _) _⟩
end Go.Proofs.YtpjpckmfehfniaaGreatDoor
