import Derived.Test.YtpjpckmfehfniaaGreatDoorZC20
import Derived.Test.YtpjpckmfehfniaaGreatDoorZC17
import Derived.Outline
namespace Go.Proofs.YtpjpckmfehfniaaGreatDoor
open Go.RowKit

def RC.fin (r : RC) (c : Int) (t : ByteArray) : RC := { r with halted := true, over := true, code := c, text := t }
def RC.stop (r : RC) (h : Bool) : RC := { r with halted := true, has := h, name := r.hand }
def RC.looked (r : RC) (k : Int) : RC := { r with looks := k }
theorem Kp.alloc {base b : Nat} {w w' : World} (h : Kp base b w w') (hle : base ≤ w'.heap.size) (o : Obj) : Kp base b w (w'.alloc o) := h.trans (Kp.of_below ((Below.refl _ _).alloc (Nat.le_refl _) o) hle)
theorem Kp.drew {base b : Nat} {w w' : World} (h : Kp base b w w') : Kp base b w w'.drew := ⟨h.os, h.tape, h.output, h.size, h.block⟩
theorem run_alloc {w : World} {b : Nat} {r : RC} (h : RunAt w b r) (o : Obj) : RunAt (w.alloc o) b r := (Below.heap_alloc w o b (blk_lt h)).trans h
theorem run_below {w w' : World} {b : Nat} {r : RC} (h : RunAt w b r) (hb : Below w.heap.size w w') : RunAt w' b r := (hb.block b (blk_lt h)).trans h
theorem run_lt {w : World} {b : Nat} {r : RC} (h : RunAt w b r) : b < w.heap.size := blk_lt h

set_option maxHeartbeats 400000 in
theorem c134 (base b : Nat) (r : RC) (c : Int) (t : ByteArray) (w : World) (h : RunAt w b r) :
    Calls Tryz.prog 134 #[.pointer (some ⟨b, 0, none⟩), .int .i64 c, .string t] w fun e w' => e = .returned (.tuple #[]) ∧ RunAt w' b (r.fin c t) ∧ Kp base b w w' := by
  have HR : Hid (RunAt w b r) := h
  have hlt := run_lt h
  have c85 : w.cell? ⟨b, 8, none⟩ = some (.bool r.halted) := run_cell h 8
  have cx9 : w.cell? ⟨b, 9, none⟩ = some (.bool r.over) := run_cell h 9
  have cx10 : w.cell? ⟨b, 10, none⟩ = some (.int .i64 r.code) := run_cell h 10
  have cx11 : w.cell? ⟨b, 11, none⟩ = some (.string r.text) := run_cell h 11
  have f8 := run_free h 8
  have f9 := run_free h 9
  have f10 := run_free h 10
  have f11 := run_free h 11
  clear h
  go_enter Tryz.func134, Tryz.ntmps134
  go_wp2
  go_end0
  refine ⟨rfl, ?_, ((((Kp.refl base b w).set 8 _).set 9 _).set 10 _).set 11 _⟩
  unfold RunAt
  rw [heap_setCell_same _ b 11 _ 164 _ (heap_setCell_same _ b 10 _ 164 _ (heap_setCell_same _ b 9 _ 164 _ (heap_setCell_same _ b 8 _ 164 _ HR.out)))]
  rfl

set_option maxHeartbeats 400000 in
theorem c210 (base b : Nat) (r : RC) (hs : Bool) (w : World) (h : RunAt w b r) :
    Calls Tryz.prog 210 #[.pointer (some ⟨b, 0, none⟩), .bool hs] w fun e w' => e = .returned (.tuple #[]) ∧ RunAt w' b (r.stop hs) ∧ Kp base b w w' := by
  have HR : Hid (RunAt w b r) := h
  have hlt := run_lt h
  have c2 : w.cell? ⟨b, 2, none⟩ = some (.string r.hand) := run_cell h 2
  have c85 : w.cell? ⟨b, 8, none⟩ = some (.bool r.halted) := run_cell h 8
  have c35 : w.cell? ⟨b, 12, none⟩ = some (.bool r.has) := run_cell h 12
  have c90 : w.cell? ⟨b, 13, none⟩ = some (.string r.name) := run_cell h 13
  have f8 := run_free h 8
  have f12 := run_free h 12
  have f13 := run_free h 13
  clear h
  go_enter Tryz.func210, Tryz.ntmps210
  go_wp2
  go_end0
  refine ⟨rfl, ?_, (((Kp.refl base b w).set 8 _).set 12 _).set 13 _⟩
  unfold RunAt
  rw [heap_setCell_same _ b 13 _ 164 _ (heap_setCell_same _ b 12 _ 164 _ (heap_setCell_same _ b 8 _ 164 _ HR.out))]
  rfl

set_option maxHeartbeats 1000000 in
theorem c133 (base b : Nat) (r : RC) (n : Nat) (w : World) (h : RunAt w b r) (hn : r.place = n) (hs : n < 100) :
    Calls Tryz.prog 133 #[.pointer (some ⟨b, 0, none⟩)] w fun e w' => e = .returned (.tuple #[]) ∧ RunAt w' b (r.fin 2 (ofL (Lib.decDigits n))) ∧ Kp base b w w' := by
  have HR : Hid (RunAt w b r) := h
  have cx6 : w.cell? ⟨b, 6, none⟩ = some (.int .i64 n) := by rw [← hn]; exact run_cell h 6
  clear h
  go_enter Tryz.func133, Tryz.ntmps133
  go_wp2_with fail
  refine (Tryz.strconv_Itoa_small n hs w).mono ?_
  rintro e w1 ⟨rfl, hw⟩
  obtain rfl := hw.symm
  go_wp2_with fail
  refine (c134 base b r 2 (ofL (Lib.decDigits n)) w HR.out).mono ?_
  rintro e w2 ⟨rfl, h2, hk⟩
  have H2 : Hid (RunAt w2 b (r.fin 2 (ofL (Lib.decDigits n)))) := h2
  clear h2
  go_wp2
  go_end0
  exact ⟨rfl, H2.out, hk⟩

set_option maxHeartbeats 1000000 in
theorem c171e (base b : Nat) (r : RC) (out : List UInt8) (w : World) (h : St base b w r out) :
    Calls Tryz.prog 171 #[.pointer (some ⟨b, 0, none⟩)] w fun e w' => e = .returned (.string (ofL out)) ∧ RunAt w' b r ∧ Kp base b w w' := by
  have hUN : ∀ (W : World) (q : Option Addr), (Builtin.unsafeString_ #[240, 3] 9 #[.pointer q, .int .i64 0]).run Tryz.prog W = .ok (.string .empty) W := fun W q => Lib.run_unsafeString_none W _ _ _ q
  have HR : Hid (RunAt w b r) := h.run
  have hlt := h.lt
  have hle := h.le
  by_cases h0 : out = []
  · subst h0
    rcases h.own.2 with ⟨hv, _⟩ | ⟨g, cap, cur, hv, hg, hh, hnc, hcm, hcs, htake⟩
    · have c1 : w.drew.cell? ⟨b, 1, none⟩ = some (.slice none 0 0) := by
        show w.cell? ⟨b, 1, none⟩ = _
        rw [run_cell h.run 1, ← hv]; rfl
      have hSD : (Builtin.unsafeSliceData_ #[60] 240 #[.slice none 0 0]).run Tryz.prog w.drew = .ok (.pointer none) w.drew := rfl
      clear h
      go_enter Tryz.func171, Tryz.ntmps171
      go_wp2
      go_region
      all_goals (go_wp2; go_ret; exact ⟨rfl, HR.out, (Kp.refl base b w).drew⟩)
    · by_cases hc0 : cap = 0
      · subst hc0
        have hw1 : w.cell? ⟨b, 1, none⟩ = some (.slice (some ⟨g, 0, none⟩) 0 0) := by rw [run_cell h.run 1]; exact congrArg some hv
        have c1 : w.drew.cell? ⟨b, 1, none⟩ = some (.slice (some ⟨g, 0, none⟩) 0 0) := hw1
        have hSD : (Builtin.unsafeSliceData_ #[60] 240 #[.slice (some ⟨g, 0, none⟩) 0 0]).run Tryz.prog w.drew = .ok (.pointer (some ⟨w.drew.heap.size, 0, none⟩)) (w.drew.alloc (.view ⟨g, 0, none⟩ 5)) :=
          Lib.run_unsafeSliceData_zero w.drew _ _ 5 Tryz.underlying240 ⟨g, 0, none⟩ 0 (5, cur.size) (by have hg' : w.drew.heap[g]? = some (.cells cur 5 (0, 0)) := hh; simp [World.shape?, hg'])
        have hlt2 : b < w.heap.size := run_lt h.run
        have c2 : (w.drew.alloc (.view ⟨g, 0, none⟩ 5)).cell? ⟨b, 1, none⟩ = some (.slice (some ⟨g, 0, none⟩) 0 0) := by
          have : (w.drew.alloc (.view ⟨g, 0, none⟩ 5)).heap[b]? = _ := (Lib.alloc_old w.drew _ b hlt2).trans h.run
          rw [Lib.cell_of_heap this]; exact congrArg some hv
        have cx3 : (w.alloc (.view ⟨g, 0, none⟩ 5)).drew.cell? ⟨b, 1, none⟩ = some (.slice (some ⟨g, 0, none⟩) 0 0) := c2
        clear h
        go_enter Tryz.func171, Tryz.ntmps171
        go_wp2
        go_region
        all_goals (go_wp2; go_ret; exact ⟨rfl, run_alloc (w := w.drew) HR.out _, (Kp.refl base b w).drew.alloc hle _⟩)
      · have c1 : w.drew.cell? ⟨b, 1, none⟩ = some (.slice (some ⟨g, 0, none⟩) 0 cap) := by
          show w.cell? ⟨b, 1, none⟩ = _
          rw [run_cell h.run 1]; exact congrArg some hv
        have hSD : (Builtin.unsafeSliceData_ #[60] 240 #[.slice (some ⟨g, 0, none⟩) 0 cap]).run Tryz.prog w.drew = .ok (.pointer (some ⟨g, 0, none⟩)) w.drew :=
          Lib.run_unsafeSliceData_row _ _ _ _ _ _ hc0
        clear h hc0
        go_enter Tryz.func171, Tryz.ntmps171
        go_wp2
        go_region
        all_goals (go_wp2; go_ret; exact ⟨rfl, HR.out, (Kp.refl base b w).drew⟩)
  · have hl0 : out.length ≠ 0 := by simpa using h0
    have hown := h.own
    rcases h.own.2 with ⟨_, hz⟩ | ⟨g, cap, cur, hv, hg, hh, hnc, hcm, hcs, htake⟩
    · exact absurd hz hl0
    rw [hv] at hown
    have c1 : w.drew.cell? ⟨b, 1, none⟩ = some (.slice (some ⟨g, 0, none⟩) out.length cap) := by
      show w.cell? ⟨b, 1, none⟩ = _
      rw [run_cell h.run 1]; exact congrArg some hv
    have hSD : (Builtin.unsafeSliceData_ #[60] 240 #[.slice (some ⟨g, 0, none⟩) out.length cap]).run Tryz.prog w.drew = .ok (.pointer (some ⟨g, 0, none⟩)) w.drew :=
      Lib.run_unsafeSliceData_row _ _ _ _ _ _ (by omega)
    have hUS : (Builtin.unsafeString_ #[240, 3] 9 #[.pointer (some ⟨g, 0, none⟩), .int .i64 out.length]).run Tryz.prog w.drew = .ok (.string ⟨out.toArray⟩) (w.drew.freeze ⟨g, 0, none⟩ out.length) := by
      refine Lib.run_unsafeString_row w.drew 240 3 9 5 Tryz.underlying240 (by kernel_rfl) g cur.size (by have hg' : w.drew.heap[g]? = some (.cells cur 5 (0, 0)) := hh; simp [World.shape?, hg']) out h0 (by omega) (by unfold maxLen at hcm; omega) ?_
      intro j x hx
      exact hown.cells (g := g) rfl j (.int .u8 x.toNat) (by simp [Lib.byteCells, hx])
    have HB : Hid (Below base w (w.drew.freeze ⟨g, 0, none⟩ out.length)) := Lib.below_freeze (Below.drew (Below.refl base w)) (p := ⟨g, 0, none⟩) hg _
    clear h hown htake hcs hcm hnc hh hl0 h0 hUN
    go_enter Tryz.func171, Tryz.ntmps171
    go_wp2
    go_region
    all_goals (go_wp2; go_ret; exact ⟨rfl, (HB.out.block b hlt).trans HR.out, Kp.of_base HB.out⟩)
end Go.Proofs.YtpjpckmfehfniaaGreatDoor
namespace Go.Proofs.YtpjpckmfehfniaaGreatDoor
open Go.RowKit

theorem Kp.mono {base base' b : Nat} {w w' : World} (h : Kp base' b w w') (hle : base ≤ base') : Kp base b w w' := ⟨h.os, h.tape, h.output, h.size, fun k hk hne => h.block k (by omega) hne⟩
theorem Kp.free {base b : Nat} {w w' : World} (h : Kp base b w w') {p : Addr} (hp : p.block < base) (hne : p.block ≠ b) : w'.frozen? p = w.frozen? p := by
  unfold World.frozen?
  rw [h.block p.block hp hne]
def z42 : Obj := .cells #[.int .i64 0, .string ⟨#[]⟩] 28
/-- The block of a result that is to be given. -/
theorem res_kept {w w2 : World} {b : Nat} (hb : b < w.heap.size) (hk : Kp (w.heap.size + 1) b (w.alloc z42) w2) :
    (w2.cell? ⟨w.heap.size, 0, none⟩ = some (.int .i64 0) ∧ w2.cell? ⟨w.heap.size, 1, none⟩ = some (.string ⟨#[]⟩)) ∧ w2.frozen? ⟨w.heap.size, 0, none⟩ = false ∧ w2.frozen? ⟨w.heap.size, 1, none⟩ = false := by
  have e : ∀ j, w2.cell? ⟨w.heap.size, j, none⟩ = (w.alloc z42).cell? ⟨w.heap.size, j, none⟩ := fun j => hk.cell (by simp) (by simp; omega)
  have f : ∀ j, w2.frozen? ⟨w.heap.size, j, none⟩ = (w.alloc z42).frozen? ⟨w.heap.size, j, none⟩ := fun j => hk.free (by simp) (by simp; omega)
  rw [e, e, f, f]
  unfold z42
  simp

set_option maxHeartbeats 1000000 in
theorem c189a (b : Nat) (r : RC) (hs : Bool) (w : World) (h : RunAt w b r) (hh : r.hand.size ≤ 300) (hn : nameOk r.hand.data.toList = false) :
    Calls Tryz.prog 189 #[.pointer (some ⟨b, 0, none⟩), .bool hs] w fun e w' => e = .returned (.tuple #[.agg #[.int .i64 0, .string ⟨#[]⟩], .bool false]) ∧ RunAt w' b (r.fin 4 ⟨#[63]⟩) ∧ Kp w.heap.size b w w' := by
  have HR : Hid (RunAt (w.alloc z42) b r) := run_alloc h _
  have c2 : w.cell? ⟨b, 2, none⟩ = some (.string r.hand) := run_cell h 2
  have hlt := run_lt h
  have hle : w.heap.size ≤ w.heap.size := Nat.le_refl _
  have HN : Hid (nameOk r.hand.data.toList = false) := hn
  have HA : Hid (Kp w.heap.size b w (w.alloc z42)) := (Kp.refl _ b w).alloc hle _
  clear h hn
  go_enter Tryz.func189, Tryz.ntmps189
  go_wp2_with fail
  refine (c87 r.hand _ (by omega)).mono ?_
  rintro e w1 ⟨rfl, rfl⟩
  rw [HN.out]
  go_wp2_with fail
  refine (c134 (w.heap.size + 1) b r 4 ⟨#[63]⟩ _ HR.out).mono ?_
  rintro e w2 ⟨rfl, h2, hk0⟩
  have hk : Kp (w.heap.size + 1) b (w.alloc z42) w2 := hk0
  obtain ⟨⟨q0, q1⟩, g0, g1⟩ := res_kept hlt hk
  have H2 : Hid (RunAt w2 b (r.fin 4 ⟨#[63]⟩)) := h2
  have HK : Hid (Kp w.heap.size b w w2) := HA.out.trans (hk.mono (by omega))
  have e00 := World.cell?_setCell_same w2 ⟨w.heap.size, 0, none⟩ (.int .i64 0) q0
  obtain ⟨e0, e1⟩ := set2_at w2 w.heap.size 0 (.int .i64 0) (.string ⟨#[]⟩) _ _ q0 q1
  clear e0
  clear h2 hk hk0
  go_wp2
  have hne : b ≠ w.heap.size := by omega
  refine bodyPost_ret (v := .tuple #[.agg #[.int .i64 0, .string ⟨#[]⟩], .bool false]) (by simp [results, Tryz.results189, go_sem, e00, e1]) rfl ⟨rfl, ?_, ?_⟩
  · unfold RunAt
    rw [heap_setCell_other _ _ _ _ (by exact hne), heap_setCell_other _ _ _ _ (by exact hne)]
    exact H2.out
  · exact HK.out.trans (Kp.of_base (((Below.refl w.heap.size _).setCell (by exact hle) _).setCell (by exact hle) _))

set_option maxHeartbeats 1000000 in
theorem c189b (b : Nat) (r : RC) (hs : Bool) (w : World) (h : RunAt w b r) (hh : r.hand.size ≤ 300) (hn : nameOk r.hand.data.toList = true) (hl : r.looks = 14) :
    Calls Tryz.prog 189 #[.pointer (some ⟨b, 0, none⟩), .bool hs] w fun e w' => e = .returned (.tuple #[.agg #[.int .i64 0, .string ⟨#[]⟩], .bool false]) ∧ RunAt w' b (r.fin 3 ⟨#[]⟩) ∧ Kp w.heap.size b w w' := by
  have HR : Hid (RunAt (w.alloc z42) b r) := run_alloc h _
  have c2 : w.cell? ⟨b, 2, none⟩ = some (.string r.hand) := run_cell h 2
  have cx5 : w.cell? ⟨b, 5, none⟩ = some (.int .i64 14) := by rw [← hl]; exact run_cell h 5
  have hlt := run_lt h
  have hle : w.heap.size ≤ w.heap.size := Nat.le_refl _
  have HN : Hid (nameOk r.hand.data.toList = true) := hn
  have HA : Hid (Kp w.heap.size b w (w.alloc z42)) := (Kp.refl _ b w).alloc hle _
  clear h hn
  go_enter Tryz.func189, Tryz.ntmps189
  go_wp2_with fail
  refine (c87 r.hand _ (by omega)).mono ?_
  rintro e w1 ⟨rfl, rfl⟩
  rw [HN.out]
  go_wp2_with fail
  refine (c134 (w.heap.size + 1) b r 3 ⟨#[]⟩ _ HR.out).mono ?_
  rintro e w2 ⟨rfl, h2, hk0⟩
  have hk : Kp (w.heap.size + 1) b (w.alloc z42) w2 := hk0
  obtain ⟨⟨q0, q1⟩, g0, g1⟩ := res_kept hlt hk
  have H2 : Hid (RunAt w2 b (r.fin 3 ⟨#[]⟩)) := h2
  have HK : Hid (Kp w.heap.size b w w2) := HA.out.trans (hk.mono (by omega))
  have e00 := World.cell?_setCell_same w2 ⟨w.heap.size, 0, none⟩ (.int .i64 0) q0
  obtain ⟨e0, e1⟩ := set2_at w2 w.heap.size 0 (.int .i64 0) (.string ⟨#[]⟩) _ _ q0 q1
  clear e0
  clear h2 hk hk0
  go_wp2
  have hne : b ≠ w.heap.size := by omega
  refine bodyPost_ret (v := .tuple #[.agg #[.int .i64 0, .string ⟨#[]⟩], .bool false]) (by simp [results, Tryz.results189, go_sem, e00, e1]) rfl ⟨rfl, ?_, ?_⟩
  · unfold RunAt
    rw [heap_setCell_other _ _ _ _ (by exact hne), heap_setCell_other _ _ _ _ (by exact hne)]
    exact H2.out
  · exact HK.out.trans (Kp.of_base (((Below.refl w.heap.size _).setCell (by exact hle) _).setCell (by exact hle) _))

set_option maxHeartbeats 1000000 in
theorem c189c (b : Nat) (r : RC) (hs : Bool) (w : World) (h : RunAt w b r) (hh : r.hand.size ≤ 300) (hn : nameOk r.hand.data.toList = true) (a : Option Addr) (n cap : Nat) (hl : r.looks = n) (hl2 : n < 14) (hrs : r.reps = .slice a n cap) :
    Calls Tryz.prog 189 #[.pointer (some ⟨b, 0, none⟩), .bool hs] w fun e w' => e = .returned (.tuple #[.agg #[.int .i64 0, .string ⟨#[]⟩], .bool false]) ∧ RunAt w' b (r.stop hs) ∧ Kp w.heap.size b w w' := by
  have HR : Hid (RunAt (w.alloc z42) b r) := run_alloc h _
  have c2 : w.cell? ⟨b, 2, none⟩ = some (.string r.hand) := run_cell h 2
  have cx5 : w.cell? ⟨b, 5, none⟩ = some (.int .i64 n) := by rw [← hl]; exact run_cell h 5
  have cx4 : w.cell? ⟨b, 4, none⟩ = some (.slice a n cap) := by rw [run_cell h 4, ← hrs]; rfl
  have hlt := run_lt h
  have hle : w.heap.size ≤ w.heap.size := Nat.le_refl _
  have HN : Hid (nameOk r.hand.data.toList = true) := hn
  have HA : Hid (Kp w.heap.size b w (w.alloc z42)) := (Kp.refl _ b w).alloc hle _
  clear h hn
  go_enter Tryz.func189, Tryz.ntmps189
  go_wp2_with fail
  refine (c87 r.hand _ (by omega)).mono ?_
  rintro e w1 ⟨rfl, rfl⟩
  rw [HN.out]
  go_wp2_with fail
  go_region
  go_wp2_with fail
  refine (c210 (w.heap.size + 1) b r hs (w.alloc z42).drew HR.out).mono ?_
  rintro e w2 ⟨rfl, h2, hk0⟩
  have hk : Kp (w.heap.size + 1) b (w.alloc z42) w2 := (Kp.refl _ b (w.alloc z42)).drew.trans hk0
  obtain ⟨⟨q0, q1⟩, g0, g1⟩ := res_kept hlt hk
  have H2 : Hid (RunAt w2 b (r.stop hs)) := h2
  have HK : Hid (Kp w.heap.size b w w2) := HA.out.trans (hk.mono (by omega))
  have e00 := World.cell?_setCell_same w2 ⟨w.heap.size, 0, none⟩ (.int .i64 0) q0
  obtain ⟨e0, e1⟩ := set2_at w2 w.heap.size 0 (.int .i64 0) (.string ⟨#[]⟩) _ _ q0 q1
  clear e0
  clear h2 hk hk0
  go_wp2
  have hne : b ≠ w.heap.size := by omega
  refine bodyPost_ret (v := .tuple #[.agg #[.int .i64 0, .string ⟨#[]⟩], .bool false]) (by simp [results, Tryz.results189, go_sem, e00, e1]) rfl ⟨rfl, ?_, ?_⟩
  · unfold RunAt
    rw [heap_setCell_other _ _ _ _ (by exact hne), heap_setCell_other _ _ _ _ (by exact hne)]
    exact H2.out
  · exact HK.out.trans (Kp.of_base (((Below.refl w.heap.size _).setCell (by exact hle) _).setCell (by exact hle) _))
theorem St.kp {base b : Nat} {w w' : World} {r r' : RC} {out : List UInt8} (h : St base b w r out) (hk : Kp w.heap.size b w w') (hr : RunAt w' b r') (hp : r'.p = r.p) (hv : r'.v = r.v) : St base b w' r' out := by
  refine ⟨h.lt, Nat.le_trans h.le hk.size, hr, by rw [hp]; exact h.ptr, ?_⟩
  rw [hv]
  obtain ⟨h1, h2⟩ := h.own
  refine ⟨h1, ?_⟩
  rcases h2 with h2 | ⟨g, cap, cur, hv, hg, hh, hr⟩
  · exact .inl h2
  · refine .inr ⟨g, cap, cur, hv, hg, ?_, hr⟩
    have := h.lt
    rw [hk.block g (blk_lt hh) (by omega)]; exact hh

set_option maxHeartbeats 1000000 in
theorem c189d (b : Nat) (r : RC) (hs : Bool) (w : World) (h : RunAt w b r) (hh : r.hand.size ≤ 300) (hn : nameOk r.hand.data.toList = true) (ba off n cap k : Nat) (x : R2) (hl : r.looks = k) (hl2 : k < 14) (hkn : k < n) (hrs : r.reps = .slice (some ⟨ba, off, none⟩) n cap) (_hn14 : n ≤ 14) (hba : ba < w.heap.size)
    (x0 : w.cell? ⟨ba, off + k * 2, none⟩ = some (.int .i64 x.code)) (x1 : w.cell? ⟨ba, off + k * 2 + 1, none⟩ = some (.string x.tx)) :
    Calls Tryz.prog 189 #[.pointer (some ⟨b, 0, none⟩), .bool hs] w fun e w' => e = .returned (.tuple #[.agg #[.int .i64 x.code, .string x.tx], .bool true]) ∧ RunAt w' b (r.looked (k + 1)) ∧ Kp w.heap.size b w w' := by
  have HR : Hid (RunAt w b r) := h
  have c2 : w.cell? ⟨b, 2, none⟩ = some (.string r.hand) := run_cell h 2
  have cx5 : w.cell? ⟨b, 5, none⟩ = some (.int .i64 k) := by rw [← hl]; exact run_cell h 5
  have cx4 : w.cell? ⟨b, 4, none⟩ = some (.slice (some ⟨ba, off, none⟩) n cap) := by rw [run_cell h 4, ← hrs]; rfl
  have f5 := run_free h 5
  have hlt := run_lt h
  have hle : w.heap.size ≤ w.heap.size := Nat.le_refl _
  have HN : Hid (nameOk r.hand.data.toList = true) := hn
  clear h hn
  go_enter Tryz.func189, Tryz.ntmps189
  go_wp2_with fail
  refine (c87 r.hand _ (by omega)).mono ?_
  rintro e w1 ⟨rfl, rfl⟩
  rw [HN.out]
  go_wp2_with fail
  go_region
  go_wp2_with fail
  go_region
  go_wp2
  refine bodyPost_ret (v := .tuple #[.agg #[.int .i64 x.code, .string x.tx], .bool true]) (by simp [results, Tryz.results189, go_sem]) rfl ⟨rfl, ?_, ?_⟩
  · have h1 : RunAt (w.setCell ⟨b, 5, none⟩ (.int .i64 ((k : Int) + 1))) b (r.looked (k + 1)) := run_set HR.out 5 _ rfl
    exact run_below h1 ((((Below.refl _ _).alloc (Nat.le_refl _) _).alloc (by simp) _).drew.drew)
  · exact ((((Kp.refl w.heap.size b w).set 5 _).alloc (by simp) _).alloc (by simp) _).drew.drew
end Go.Proofs.YtpjpckmfehfniaaGreatDoor
