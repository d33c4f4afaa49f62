import Derived.Test.YtignmnbgedmfbaaDoorN6
import Derived.Test.YtignmnbgedmfbaaDoorN2
import Derived.Outline
namespace Go.Proofs.YtignmnbgedmfbaaDoor
open Go.RowKit

def RC.fin (r : RC) (c : Int) (t : ByteArray) : RC := { r with halted := true, over := true, code := c, text := t }
def RC.stop (r : RC) (h : Bool) : RC := { r with halted := true, has := h, name := r.hand }
def RC.looked (r : RC) (k : Int) : RC := { r with looks := k }
theorem Kp.alloc {base b : Nat} {w w' : World} (h : Kp base b w w') (hle : base ≤ w'.heap.size) (o : Obj) : Kp base b w (w'.alloc o) := h.trans (Kp.of_below ((Below.refl _ _).alloc (Nat.le_refl _) o) hle)
theorem Kp.drew {base b : Nat} {w w' : World} (h : Kp base b w w') : Kp base b w w'.drew := ⟨h.os, h.tape, h.output, h.size, h.block⟩
theorem run_alloc {w : World} {b : Nat} {r : RC} (h : RunAt w b r) (o : Obj) : RunAt (w.alloc o) b r := (Below.heap_alloc w o b (blk_lt h)).trans h
theorem run_below {w w' : World} {b : Nat} {r : RC} (h : RunAt w b r) (hb : Below w.heap.size w w') : RunAt w' b r := (hb.block b (blk_lt h)).trans h
theorem run_lt {w : World} {b : Nat} {r : RC} (h : RunAt w b r) : b < w.heap.size := blk_lt h

set_option maxHeartbeats 400000 in
theorem c81 (base b : Nat) (r : RC) (c : Int) (t : ByteArray) (w : World) (h : RunAt w b r) :
    Calls Tryd.prog 81 #[.pointer (some ⟨b, 0, none⟩), .int .i64 c, .string t] w fun e w' => e = .returned (.tuple #[]) ∧ RunAt w' b (r.fin c t) ∧ Kp base b w w' := by
  have HR : Hid (RunAt w b r) := h
  have hlt := run_lt h
  have c8 : w.cell? ⟨b, 8, none⟩ = some (.bool r.halted) := run_cell h 8
  have c9 : w.cell? ⟨b, 9, none⟩ = some (.bool r.over) := run_cell h 9
  have c10 : w.cell? ⟨b, 10, none⟩ = some (.int .i64 r.code) := run_cell h 10
  have c11 : w.cell? ⟨b, 11, none⟩ = some (.string r.text) := run_cell h 11
  have f8 := run_free h 8
  have f9 := run_free h 9
  have f10 := run_free h 10
  have f11 := run_free h 11
  clear h
  go_enter Tryd.func81, Tryd.ntmps81
  go_wp2
  go_end0
  refine ⟨rfl, ?_, ((((Kp.refl base b w).set 8 _).set 9 _).set 10 _).set 11 _⟩
  unfold RunAt
  rw [heap_setCell_same _ b 11 _ 94 _ (heap_setCell_same _ b 10 _ 94 _ (heap_setCell_same _ b 9 _ 94 _ (heap_setCell_same _ b 8 _ 94 _ HR.out)))]
  rfl

set_option maxHeartbeats 400000 in
theorem c121 (base b : Nat) (r : RC) (hs : Bool) (w : World) (h : RunAt w b r) :
    Calls Tryd.prog 121 #[.pointer (some ⟨b, 0, none⟩), .bool hs] w fun e w' => e = .returned (.tuple #[]) ∧ RunAt w' b (r.stop hs) ∧ Kp base b w w' := by
  have HR : Hid (RunAt w b r) := h
  have hlt := run_lt h
  have c2 : w.cell? ⟨b, 2, none⟩ = some (.string r.hand) := run_cell h 2
  have c8 : w.cell? ⟨b, 8, none⟩ = some (.bool r.halted) := run_cell h 8
  have c12 : w.cell? ⟨b, 12, none⟩ = some (.bool r.has) := run_cell h 12
  have c13 : w.cell? ⟨b, 13, none⟩ = some (.string r.name) := run_cell h 13
  have f8 := run_free h 8
  have f12 := run_free h 12
  have f13 := run_free h 13
  clear h
  go_enter Tryd.func121, Tryd.ntmps121
  go_wp2
  go_end0
  refine ⟨rfl, ?_, (((Kp.refl base b w).set 8 _).set 12 _).set 13 _⟩
  unfold RunAt
  rw [heap_setCell_same _ b 13 _ 94 _ (heap_setCell_same _ b 12 _ 94 _ (heap_setCell_same _ b 8 _ 94 _ HR.out))]
  rfl

set_option maxHeartbeats 1000000 in
theorem c80 (base b : Nat) (r : RC) (n : Nat) (w : World) (h : RunAt w b r) (hn : r.place = n) (hs : n < 100) :
    Calls Tryd.prog 80 #[.pointer (some ⟨b, 0, none⟩)] w fun e w' => e = .returned (.tuple #[]) ∧ RunAt w' b (r.fin 2 (ofL (Lib.decDigits n))) ∧ Kp base b w w' := by
  have HR : Hid (RunAt w b r) := h
  have c6 : w.cell? ⟨b, 6, none⟩ = some (.int .i64 n) := by rw [← hn]; exact run_cell h 6
  clear h
  go_enter Tryd.func80, Tryd.ntmps80
  go_wp2_with fail
  refine (Tryd.strconv_Itoa_small n hs w).mono ?_
  rintro e w1 ⟨rfl, hw⟩
  obtain rfl := hw.symm
  go_wp2_with fail
  refine (c81 base b r 2 (ofL (Lib.decDigits n)) w HR.out).mono ?_
  rintro e w2 ⟨rfl, h2, hk⟩
  have H2 : Hid (RunAt w2 b (r.fin 2 (ofL (Lib.decDigits n)))) := h2
  clear h2
  go_wp2
  go_end0
  exact ⟨rfl, H2.out, hk⟩

set_option maxHeartbeats 1000000 in
theorem c34e (base b : Nat) (r : RC) (out : List UInt8) (w : World) (h : St base b w r out) :
    Calls Tryd.prog 34 #[.pointer (some ⟨b, 0, none⟩)] w fun e w' => e = .returned (.string (ofL out)) ∧ RunAt w' b r ∧ Kp base b w w' := by
  have hUN : ∀ (W : World) (q : Option Addr), (Builtin.unsafeString_ #[109, 3] 9 #[.pointer q, .int .i64 0]).run Tryd.prog W = .ok (.string .empty) W := fun W q => Lib.run_unsafeString_none W _ _ _ q
  have HR : Hid (RunAt w b r) := h.run
  have hlt := h.lt
  have hle := h.le
  by_cases h0 : out = []
  · subst h0
    rcases h.own.2 with ⟨hv, _⟩ | ⟨g, cap, cur, hv, hg, hh, hnc, hcm, hcs, htake⟩
    · have c1 : w.drew.cell? ⟨b, 1, none⟩ = some (.slice none 0 0) := by
        show w.cell? ⟨b, 1, none⟩ = _
        rw [run_cell h.run 1, ← hv]; rfl
      have hSD : (Builtin.unsafeSliceData_ #[37] 109 #[.slice none 0 0]).run Tryd.prog w.drew = .ok (.pointer none) w.drew := rfl
      clear h
      go_enter Tryd.func34, Tryd.ntmps34
      go_wp2
      go_region
      all_goals (go_wp2; go_ret; exact ⟨rfl, HR.out, (Kp.refl base b w).drew⟩)
    · by_cases hc0 : cap = 0
      · subst hc0
        have hw1 : w.cell? ⟨b, 1, none⟩ = some (.slice (some ⟨g, 0, none⟩) 0 0) := by rw [run_cell h.run 1]; exact congrArg some hv
        have c1 : w.drew.cell? ⟨b, 1, none⟩ = some (.slice (some ⟨g, 0, none⟩) 0 0) := hw1
        have hSD : (Builtin.unsafeSliceData_ #[37] 109 #[.slice (some ⟨g, 0, none⟩) 0 0]).run Tryd.prog w.drew = .ok (.pointer (some ⟨w.drew.heap.size, 0, none⟩)) (w.drew.alloc (.view ⟨g, 0, none⟩ 5)) :=
          Lib.run_unsafeSliceData_zero w.drew _ _ 5 Tryd.underlying109 ⟨g, 0, none⟩ 0 (5, cur.size) (by have hg' : w.drew.heap[g]? = some (.cells cur 5 (0, 0)) := hh; simp [World.shape?, hg'])
        have hlt2 : b < w.heap.size := run_lt h.run
        have c2 : (w.drew.alloc (.view ⟨g, 0, none⟩ 5)).cell? ⟨b, 1, none⟩ = some (.slice (some ⟨g, 0, none⟩) 0 0) := by
          have : (w.drew.alloc (.view ⟨g, 0, none⟩ 5)).heap[b]? = _ := (Lib.alloc_old w.drew _ b hlt2).trans h.run
          rw [Lib.cell_of_heap this]; exact congrArg some hv
        have c3 : (w.alloc (.view ⟨g, 0, none⟩ 5)).drew.cell? ⟨b, 1, none⟩ = some (.slice (some ⟨g, 0, none⟩) 0 0) := c2
        clear h
        go_enter Tryd.func34, Tryd.ntmps34
        go_wp2
        go_region
        all_goals (go_wp2; go_ret; exact ⟨rfl, run_alloc (w := w.drew) HR.out _, (Kp.refl base b w).drew.alloc hle _⟩)
      · have c1 : w.drew.cell? ⟨b, 1, none⟩ = some (.slice (some ⟨g, 0, none⟩) 0 cap) := by
          show w.cell? ⟨b, 1, none⟩ = _
          rw [run_cell h.run 1]; exact congrArg some hv
        have hSD : (Builtin.unsafeSliceData_ #[37] 109 #[.slice (some ⟨g, 0, none⟩) 0 cap]).run Tryd.prog w.drew = .ok (.pointer (some ⟨g, 0, none⟩)) w.drew :=
          Lib.run_unsafeSliceData_row _ _ _ _ _ _ hc0
        clear h hc0
        go_enter Tryd.func34, Tryd.ntmps34
        go_wp2
        go_region
        all_goals (go_wp2; go_ret; exact ⟨rfl, HR.out, (Kp.refl base b w).drew⟩)
  · have hl0 : out.length ≠ 0 := by simpa using h0
    have hown := h.own
    rcases h.own.2 with ⟨_, hz⟩ | ⟨g, cap, cur, hv, hg, hh, hnc, hcm, hcs, htake⟩
    · exact absurd hz hl0
    rw [hv] at hown
    have c1 : w.drew.cell? ⟨b, 1, none⟩ = some (.slice (some ⟨g, 0, none⟩) out.length cap) := by
      show w.cell? ⟨b, 1, none⟩ = _
      rw [run_cell h.run 1]; exact congrArg some hv
    have hSD : (Builtin.unsafeSliceData_ #[37] 109 #[.slice (some ⟨g, 0, none⟩) out.length cap]).run Tryd.prog w.drew = .ok (.pointer (some ⟨g, 0, none⟩)) w.drew :=
      Lib.run_unsafeSliceData_row _ _ _ _ _ _ (by omega)
    have hUS : (Builtin.unsafeString_ #[109, 3] 9 #[.pointer (some ⟨g, 0, none⟩), .int .i64 out.length]).run Tryd.prog w.drew = .ok (.string ⟨out.toArray⟩) (w.drew.freeze ⟨g, 0, none⟩ out.length) := by
      refine Lib.run_unsafeString_row w.drew 109 3 9 5 Tryd.underlying109 (by kernel_rfl) g cur.size (by have hg' : w.drew.heap[g]? = some (.cells cur 5 (0, 0)) := hh; simp [World.shape?, hg']) out h0 (by omega) (by unfold maxLen at hcm; omega) ?_
      intro j x hx
      exact hown.cells (g := g) rfl j (.int .u8 x.toNat) (by simp [Lib.byteCells, hx])
    have HB : Hid (Below base w (w.drew.freeze ⟨g, 0, none⟩ out.length)) := Lib.below_freeze (Below.drew (Below.refl base w)) (p := ⟨g, 0, none⟩) hg _
    clear h hown htake hcs hcm hnc hh hl0 h0 hUN
    go_enter Tryd.func34, Tryd.ntmps34
    go_wp2
    go_region
    all_goals (go_wp2; go_ret; exact ⟨rfl, (HB.out.block b hlt).trans HR.out, Kp.of_base HB.out⟩)
end Go.Proofs.YtignmnbgedmfbaaDoor
