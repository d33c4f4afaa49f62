import Derived.Test.YtkhlekmicpmpkaaGreatDoorK5
namespace Go.Proofs.YtkhlekmicpmpkaaGreatDoor
open Go.RowKit
set_option maxRecDepth 100000
set_option linter.unusedVariables false
theorem own_keep {u u' : World} {base e size n : Nat} {v : Value} {xs : List Value} (h : u.ownsRow base e size v n xs) (hk : ∀ q, v.ownBlock = some q → u'.heap[q]? = u.heap[q]?) : u'.ownsRow base e size v n xs := by
 refine ⟨h.1, h.2.imp id ?_⟩
 rintro ⟨g, cap, cur, h1, h2, h3, h4⟩
 exact ⟨g, cap, cur, h1, h2, (hk g (by rw [h1]; rfl)).trans h3, h4⟩
theorem c52s (b : Bool) (s : ByteArray) (w : World) (hs : s = if b = true then ⟨#[49]⟩ else ⟨#[48]⟩) : Calls Tryz.prog 52 #[.bool b] w fun e w' => e = .returned (.string s) ∧ Below w.heap.size w w' := by
 subst hs
 exact c52 b w
set_option maxHeartbeats 8000000 in
theorem c27 (m : M3) (ls : List L4) (c : Int) (t : ByteArray) (W : Int) (a : Option Addr) (cap : Nat) (w : World) (hm : m.le 1048600) (ht : t.size ≤ 1048700) (hf : (ofL (formR c t.data.toList)).size ≤ 1048700) (hl : ls.length ≤ 1048576) (hs : ∀ i, (ls.getD i l4z).tx.size ≤ 1048600 ∧ (glT (ls.getD i l4z)).size ≤ 1048700) (hat : LksAt w a ls) :
 Calls Tryz.prog 27 #[.agg #[.string m.nm, .string m.tl, .string m.ar], .slice a ls.length cap, .agg #[.int .i64 c, .string t], .int .i64 W] w fun e w' => (∃ v, e = .returned (.agg #[.string (keyR m), v, .string (sumS (ofL (formR c t.data.toList)) W)]) ∧ w'.ownsRow w.heap.size 92 3 v ls.length (glC W ls)) ∧ Below w.heap.size w w' := by
 have hm1 := hm.2.1
 have hm2 := hm.2.2
 have hk1 : ¬ 9223372036854775807 < m.tl.size + 1 := by omega
 have hk2 : ¬ 9223372036854775807 < m.tl.size + 1 + m.ar.size := by omega
 have hB0 : Below w.heap.size w (((w.alloc (.cells #[.string m.nm, .string m.tl, .string m.ar] 41)).alloc (.cells #[.int .i64 c, .string t] 45)).alloc (.cells #[.string ⟨#[]⟩, .slice none 0 0, .string ⟨#[]⟩] 67)) := (((Below.refl _ _).alloc (Nat.le_refl _) _).alloc (by simp) _).alloc (by simp; omega) _
 have hz : (((w.alloc (.cells #[.string m.nm, .string m.tl, .string m.ar] 41)).alloc (.cells #[.int .i64 c, .string t] 45)).alloc (.cells #[.string ⟨#[]⟩, .slice none 0 0, .string ⟨#[]⟩] 67)).heap.size = w.heap.size + 3 := by simp
 have ZA : Hid (BlkAt (((w.alloc (.cells #[.string m.nm, .string m.tl, .string m.ar] 41)).alloc (.cells #[.int .i64 c, .string t] 45)).alloc (.cells #[.string ⟨#[]⟩, .slice none 0 0, .string ⟨#[]⟩] 67)) w.heap.size [.string m.nm, .string m.tl, .string m.ar]) := fun j x hx => by
  match j with
  | 0 => obtain rfl := Option.some.inj hx; simp [go_sem]
  | 1 => obtain rfl := Option.some.inj hx; simp [go_sem]
  | 2 => obtain rfl := Option.some.inj hx; simp [go_sem]
  | j + 3 => simp at hx
 have ZB : Hid (BlkAt (((w.alloc (.cells #[.string m.nm, .string m.tl, .string m.ar] 41)).alloc (.cells #[.int .i64 c, .string t] 45)).alloc (.cells #[.string ⟨#[]⟩, .slice none 0 0, .string ⟨#[]⟩] 67)) (w.heap.size + 1) [.int .i64 c, .string t]) := fun j x hx => by
  match j with
  | 0 => obtain rfl := Option.some.inj hx; simp [go_sem]
  | 1 => obtain rfl := Option.some.inj hx; simp [go_sem]
  | j + 2 => simp at hx
 have ZR : Hid (BlkAt (((w.alloc (.cells #[.string m.nm, .string m.tl, .string m.ar] 41)).alloc (.cells #[.int .i64 c, .string t] 45)).alloc (.cells #[.string ⟨#[]⟩, .slice none 0 0, .string ⟨#[]⟩] 67)) (w.heap.size + 2) [.string ⟨#[]⟩, .slice none 0 0, .string ⟨#[]⟩]) := fun j x hx => by simp [go_sem, hx]
 have FR : Hid (OpnAt (((w.alloc (.cells #[.string m.nm, .string m.tl, .string m.ar] 41)).alloc (.cells #[.int .i64 c, .string t] 45)).alloc (.cells #[.string ⟨#[]⟩, .slice none 0 0, .string ⟨#[]⟩] 67)) (w.heap.size + 2)) := fun j => by simp [go_sem]
 have HL := hidI (lks_below hat hB0)
 clear hat
 go_enter Tryz.func27, Tryz.ntmps27
 go_wp2_with fail
 generalize (((w.alloc (.cells #[.string m.nm, .string m.tl, .string m.ar] 41)).alloc (.cells #[.int .i64 c, .string t] 45)).alloc (.cells #[.string ⟨#[]⟩, .slice none 0 0, .string ⟨#[]⟩] 67)) = V at *
 rename_i K0 hK0
 have TAIL : ∀ (A : Nat) (E : World), Below V.heap.size V E → V.heap.size ≤ A → A < E.heap.size → BlkAt E A [.string (m.tl ++ ⟨#[32]⟩ ++ m.ar), .slice none 0 0, .string (sumS (ofL (formR c t.data.toList)) W)] → OpnAt E A → K0 { tmps := #[.agg #[.string m.nm, .string m.tl, .string m.ar], .slice a ls.length cap, .agg #[.int .i64 c, .string t], .int .i64 W, .pointer (some ⟨w.heap.size, 0, none⟩), undef, .pointer (some ⟨w.heap.size + 1, 0, none⟩), undef, .pointer (some ⟨w.heap.size + 2, 0, none⟩), .pointer (some ⟨A, 0, none⟩), undef, undef, .pointer (some ⟨w.heap.size, 1, none⟩), .string m.tl, .string (m.tl ++ ⟨#[32]⟩), .pointer (some ⟨w.heap.size, 2, none⟩), .string m.ar, .string (m.tl ++ ⟨#[32]⟩ ++ m.ar), .agg #[.int .i64 c, .string t], .string (ofL (formR c t.data.toList)), .int .i64 W, .string (sumS (ofL (formR c t.data.toList)) W), .agg #[.string (m.tl ++ ⟨#[32]⟩ ++ m.ar), .slice none 0 0, .string (sumS (ofL (formR c t.data.toList)) W)], undef, undef, undef, undef, undef, undef, undef, undef, undef, undef, undef, undef, undef, undef, undef, undef, undef, undef, undef, undef, undef, undef, undef, undef, undef, undef, undef, undef, undef, undef, undef, undef, undef, undef, undef, undef, undef, undef, undef, undef, undef, undef, undef, undef, undef, undef], defers := [] } E := by
  intro A E hE hA1 hA2 hM hF
  obtain ⟨i0, hi, hz0, hz1, hz2⟩ := info_parts' info92
  have hsE := hE.size
  have hBE := hB0.trans (hE.mono hB0.size)
  have HZR := hidI (ZR.out.below hE (by omega))
  have HFR := hidI (FR.out.below hE (by omega))
  have HM := hidI hM
  have HFA := hidI hF
  obtain ⟨b, off, hc⟩ := lks_some HL.out
  have HC := hidI hc
  clear hM hF hc ZA ZB ZR FR HL
  refine hK0 _ _ ?_
  clear hK0
  go_wp2_with fail
  go_loopw [10] (fun i wr => ∃ (k : Nat) (v : Value), k ≤ ls.length ∧ i = .int .i64 k ∧ Hid (BlkAt wr A [.string (m.tl ++ ⟨#[32]⟩ ++ m.ar), v, .string (sumS (ofL (formR c t.data.toList)) W)]) ∧ Hid (OpnAt wr A) ∧ Hid (wr.ownsRow E.heap.size 92 3 v k (glC W (ls.take k))) ∧ But A E wr) (fun i _ => ls.length - (intOf i).toNat)
  case atStart => exact ⟨0, .slice none 0 0, Nat.zero_le _, rfl, HM, HFA, World.ownsRow_nil _ _ _ _, But.refl _ _⟩
  case round =>
   obtain ⟨k, v, hk, rfl, HAr, HFr, HOr, BTr⟩ := hrel
   obtain ⟨av, cv, rfl⟩ := row_form HOr.out
   have szr := BTr.size
   by_cases hlt : k < ls.length
   · rcases HC.out with hss | ⟨ha, hbw, hcell⟩
     · rw [hss] at hlt; exact absurd hlt (Nat.not_lt_zero _)
     subst ha
     have hbE : b < E.heap.size ∧ b ≠ A := ⟨by omega, by omega⟩
     have GC : Hid (∀ u, But A E u → u.cell? ⟨b, off + k * 4, none⟩ = some (.bool (ls.getD k l4z).has) ∧ u.cell? ⟨b, off + k * 4 + 1, none⟩ = some (.string (ls.getD k l4z).nm) ∧ u.cell? ⟨b, off + k * 4 + 2, none⟩ = some (.int .i64 (ls.getD k l4z).cd) ∧ u.cell? ⟨b, off + k * 4 + 3, none⟩ = some (.string (ls.getD k l4z).tx)) := fun u hu => ⟨(hu.cell (p := ⟨b, off + k * 4, none⟩) hbE.1 hbE.2).trans ((hE.cell (p := ⟨b, off + k * 4, none⟩) hbw).trans (hcell k hlt).1), (hu.cell (p := ⟨b, off + k * 4 + 1, none⟩) hbE.1 hbE.2).trans ((hE.cell (p := ⟨b, off + k * 4 + 1, none⟩) hbw).trans (hcell k hlt).2.1), (hu.cell (p := ⟨b, off + k * 4 + 2, none⟩) hbE.1 hbE.2).trans ((hE.cell (p := ⟨b, off + k * 4 + 2, none⟩) hbw).trans (hcell k hlt).2.2.1), (hu.cell (p := ⟨b, off + k * 4 + 3, none⟩) hbE.1 hbE.2).trans ((hE.cell (p := ⟨b, off + k * 4 + 3, none⟩) hbw).trans (hcell k hlt).2.2.2)⟩
     have HT := hidI (take_next hlt)
     have hxs := hs k
     have hDn : ∀ q, (Value.slice av k cv).ownBlock = some q → q < wr.heap.size := fun q hq => own_lt HOr.out hq
     clear hcell
     generalize ls.getD k l4z = x at *
     have BTd : But A E wr.drew := BTr.trans (But.of_below (Below.refl _ _).drew)
     have gd := GC.out _ BTd
     have gd0 := gd.1
     have gd1 := gd.2.1
     clear gd
     go_wp2_with fail
     refine wp_region_held_drew (S := (fun u => u.cell? ⟨b, off + k * 4, none⟩ = some (.bool x.has) ∧ u.cell? ⟨b, off + k * 4 + 1, none⟩ = some (.string x.nm))) (by kernel_rfl) ?_ (fun hHeld => ?_)
     · exact ⟨gd0, gd1⟩
     refine wpAnyH_take (i := 0) (oi := ⟨some 29, .move (.tmp 1), 43, "l5_store.go:154", #[], none⟩) (v := ?_) rfl (by kernel_rfl) (by kernel_rfl) (by kernel_rfl) (fun _ _ _ h => h) (Or.inl ⟨by rfl, ?_⟩) (by assumption) ?_
     rotate_left
     · intro wq hSw
       (try dsimp only at hSw)
       go_simp
       try with_reducible rfl
     try simp only [Act.put, qA, qB, qC]
     refine wpAnyH_take (i := 1) (oi := ⟨some 30, .move (.tmp 10), 3, "l5_store.go:154", #[], none⟩) (v := ?_) rfl (by kernel_rfl) (by kernel_rfl) (by kernel_rfl) (fun _ _ _ h => h) (Or.inl ⟨by rfl, ?_⟩) (by assumption) ?_
     rotate_left
     · intro wq hSw
       (try dsimp only at hSw)
       go_simp
       try with_reducible rfl
     try simp only [Act.put, qA, qB, qC]
     refine wpAnyH_take (i := 2) (oi := ⟨some 31, .indexAddr 43 (.tmp 29) (.tmp 30), 0, "l5_store.go:154", #[⟨0, .data⟩, ⟨1, .data⟩], none⟩) (v := ?_) rfl (by kernel_rfl) (by kernel_rfl) (by kernel_rfl) (fun _ _ _ h => h) (Or.inl ⟨by rfl, ?_⟩) (by assumption) ?_
     rotate_left
     · intro wq hSw
       (try dsimp only at hSw)
       go_simp
       try with_reducible rfl
     try simp only [Act.put, qA, qB, qC]
     refine wpAnyH_take (i := 3) (oi := ⟨some 32, .fieldAddr 61 (.tmp 31) 0, 0, "l5_store.go:154", #[⟨2, .data⟩], none⟩) (v := ?_) rfl (by kernel_rfl) (by kernel_rfl) (by kernel_rfl) (fun _ _ _ h => h) (Or.inl ⟨by rfl, ?_⟩) (by assumption) ?_
     rotate_left
     · intro wq hSw
       (try dsimp only at hSw)
       go_simp
       try with_reducible rfl
     try simp only [Act.put, qA, qB, qC]
     refine wpAnyH_take (i := 4) (oi := ⟨some 33, .load 4 (.tmp 32), 4, "l5_store.go:154", #[⟨3, .data⟩], none⟩) (v := ?_) rfl (by kernel_rfl) (by kernel_rfl) (by kernel_rfl) (fun _ _ _ h => h) (Or.inl ⟨by rfl, ?_⟩) (by assumption) ?_
     rotate_left
     · intro wq hSw
       (try dsimp only at hSw)
       go_simp
       try with_reducible rfl
     try simp only [Act.put, qA, qB, qC]
     refine wpAnyH_take (i := 5) (oi := ⟨some 34, .move (.tmp 1), 43, "l5_store.go:154", #[], none⟩) (v := ?_) rfl (by kernel_rfl) (by kernel_rfl) (by kernel_rfl) (fun _ _ _ h => h) (Or.inl ⟨by rfl, ?_⟩) (by assumption) ?_
     rotate_left
     · intro wq hSw
       (try dsimp only at hSw)
       go_simp
       try with_reducible rfl
     try simp only [Act.put, qA, qB, qC]
     refine wpAnyH_take (i := 6) (oi := ⟨some 35, .move (.tmp 10), 3, "l5_store.go:154", #[], none⟩) (v := ?_) rfl (by kernel_rfl) (by kernel_rfl) (by kernel_rfl) (fun _ _ _ h => h) (Or.inl ⟨by rfl, ?_⟩) (by assumption) ?_
     rotate_left
     · intro wq hSw
       (try dsimp only at hSw)
       go_simp
       try with_reducible rfl
     try simp only [Act.put, qA, qB, qC]
     refine wpAnyH_take (i := 7) (oi := ⟨some 36, .indexAddr 43 (.tmp 34) (.tmp 35), 0, "l5_store.go:154", #[⟨5, .data⟩, ⟨6, .data⟩], none⟩) (v := ?_) rfl (by kernel_rfl) (by kernel_rfl) (by kernel_rfl) (fun _ _ _ h => h) (Or.inl ⟨by rfl, ?_⟩) (by assumption) ?_
     rotate_left
     · intro wq hSw
       (try dsimp only at hSw)
       go_simp
       try with_reducible rfl
     try simp only [Act.put, qA, qB, qC]
     refine wpAnyH_take (i := 8) (oi := ⟨some 37, .fieldAddr 61 (.tmp 36) 1, 0, "l5_store.go:154", #[⟨7, .data⟩], none⟩) (v := ?_) rfl (by kernel_rfl) (by kernel_rfl) (by kernel_rfl) (fun _ _ _ h => h) (Or.inl ⟨by rfl, ?_⟩) (by assumption) ?_
     rotate_left
     · intro wq hSw
       (try dsimp only at hSw)
       go_simp
       try with_reducible rfl
     try simp only [Act.put, qA, qB, qC]
     refine wpAnyH_take (i := 9) (oi := ⟨some 38, .load 9 (.tmp 37), 9, "l5_store.go:154", #[⟨8, .data⟩], none⟩) (v := ?_) rfl (by kernel_rfl) (by kernel_rfl) (by kernel_rfl) (fun _ _ _ h => h) (Or.inl ⟨by rfl, ?_⟩) (by assumption) ?_
     rotate_left
     · intro wq hSw
       (try dsimp only at hSw)
       go_simp
       try with_reducible rfl
     try simp only [Act.put, qA, qB, qC]
     refine wpAnyH_take (i := 10) (oi := ⟨some 39, .build 92 #[(0, .tmp 33), (1, .tmp 38)], 92, "l5_store.go:154", #[⟨4, .data⟩, ⟨9, .data⟩], none⟩) (v := ?_) rfl (by kernel_rfl) (by kernel_rfl) (by kernel_rfl) (fun _ _ _ h => h) (Or.inl ⟨by rfl, ?_⟩) (by assumption) ?_
     rotate_left
     · intro wq hSw
       (try dsimp only at hSw)
       go_simp
       try with_reducible rfl
     try simp only [Act.put, qA, qB, qC]
     refine wpAnyH_ready (rs := [11]) (by kernel_rfl) (by simp) ?_
     refine AllReadyH.cons (o := ⟨some 11, .alloc 92, 0, "l5_store.go:154", #[], none⟩) rfl (fun K hK => ?_) AllReadyH.nil
     go_simp
     have hbA : Below wr.heap.size wr ((wr.alloc (.cells #[.bool false, .string ⟨#[]⟩, .string ⟨#[]⟩] 92)).drew) := ((Below.refl _ _).alloc (Nat.le_refl _) _).drew
     have szA : ((wr.alloc (.cells #[.bool false, .string ⟨#[]⟩, .string ⟨#[]⟩] 92)).drew).heap.size = wr.heap.size + 1 := by simp
     have BTA := BTr.trans (But.of_below hbA)
     have HAA := hidI (HAr.out.below hbA (by omega))
     have HFA' := hidI (HFr.out.below hbA (by omega))
     have HOA := hidI (own_below HOr.out hbA)
     have ZD : Hid (BlkAt ((wr.alloc (.cells #[.bool false, .string ⟨#[]⟩, .string ⟨#[]⟩] 92)).drew) wr.heap.size [.bool false, .string ⟨#[]⟩, .string ⟨#[]⟩]) := hidI ((blk_new wr [.bool false, .string ⟨#[]⟩, .string ⟨#[]⟩] 92).below (Below.refl (wr.heap.size + 1) _).drew (by omega))
     have FD : Hid (OpnAt ((wr.alloc (.cells #[.bool false, .string ⟨#[]⟩, .string ⟨#[]⟩] 92)).drew) wr.heap.size) := hidI ((opn_new wr ([.bool false, .string ⟨#[]⟩, .string ⟨#[]⟩] : List Value).toArray 92).below (Below.refl (wr.heap.size + 1) _).drew (by omega))
     have ga := GC.out _ BTA
     have ga0 := ga.1
     have ga1 := ga.2.1
     clear ga
     clear hHeld
     refine hK.out _ _ ?_ (fun hHeld => ?_)
     · exact ⟨ga0, ga1⟩
     clear hK K
     try simp only [Act.put, qA, qB, qC]
     generalize ((wr.alloc (.cells #[.bool false, .string ⟨#[]⟩, .string ⟨#[]⟩] 92)).drew) = uA at *
     refine wpAnyH_ready (rs := [12]) (by kernel_rfl) (by simp) ?_
     refine AllReadyH.cons (o := ⟨none, .store 92 (.tmp 11) (.tmp 39), 0, "l5_store.go:154", #[⟨11, .data⟩, ⟨10, .data⟩, ⟨0, .phase⟩, ⟨1, .phase⟩, ⟨2, .phase⟩, ⟨3, .phase⟩, ⟨4, .phase⟩, ⟨5, .phase⟩, ⟨6, .phase⟩, ⟨7, .phase⟩, ⟨8, .phase⟩, ⟨9, .phase⟩, ⟨10, .phase⟩, ⟨11, .phase⟩], none⟩) rfl (fun K hK => ?_) AllReadyH.nil
     refine step_store_blk rfl 92 (.tmp 11) (.tmp 39) rfl wr.heap.size 0 rfl [.bool x.has, .string x.nm, .string ⟨#[]⟩] rfl (blk_some ZD.out rfl) FD.out (by simp [Value.oneCell']) (by kernel_rfl) rfl ?_
     clear hHeld
     refine st_over (old := [.bool false, .string ⟨#[]⟩, .string ⟨#[]⟩]) (N := wr.heap.size) rfl ZD.out FD.out (Nat.le_refl _) ?_
     intro uB hbB ZB' FB' szB hoB
     have BTB : But A E uB := ⟨hbB.os.trans BTA.os, hbB.tape.trans BTA.tape, hbB.output.trans BTA.output, by omega, fun q hq hne => (hbB.block q (by omega)).trans (BTA.block q hq hne)⟩
     have HAB := hidI (HAA.out.below hbB (by omega))
     have HFB := hidI (HFA'.out.below hbB (by omega))
     have HOB := hidI (own_keep HOA.out (fun q hq => hbB.block q (hDn q hq)))
     have ZDB := hidI ZB'
     have FDB := hidI FB'
     have gb := GC.out _ BTB
     have gb0 := gb.1
     have gb1 := gb.2.1
     have gb2 := gb.2.2.1
     have gb3 := gb.2.2.2
     clear gb ZB' FB' hoB
     refine hK.out _ _ ⟨gb0, gb1⟩ (fun hHeld => ?_)
     clear hK K hHeld HAA HFA' HOA ZD FD HAr HFr HOr hbB hbA
     refine wpAnyH_done (by kernel_rfl) ?_ _
     have d0 := ZDB.out 0 _ rfl
     cases hh : x.has
     · rw [hh] at d0
       have HG : Hid (glT x = ofL (formR x.cd x.tx.data.toList)) := by show glT x = _; unfold glT; rw [hh]; rfl
       have hsz : (ofL (formR x.cd x.tx.data.toList)).size ≤ 1048700 := by rw [← HG.out]; exact hxs.2
       go_wp2_with fail
       refine (c26 x.cd x.tx uB (by have := hxs.1; omega)).mono ?_
       rintro e u1 ⟨rfl, hb1⟩
       have szu1 := hb1.size
       have HAu1 := hidI (HAB.out.below hb1 (by omega))
       have HFu1 := hidI (HFB.out.below hb1 (by omega))
       have HOu1 := hidI (own_below HOB.out hb1)
       have BTu1 := BTB.trans (But.of_below hb1)
       have ZDu1 := hidI (ZDB.out.below hb1 (by omega))
       have FDu1 := hidI (FDB.out.below hb1 (by omega))
       clear hb1 HAB HFB HOB ZDB FDB
       go_wp2_with fail
       refine (c47 (ofL (formR x.cd x.tx.data.toList)) W u1 hsz).mono ?_
       rintro e u2 ⟨rfl, hb2⟩
       have szu2 := hb2.size
       have HAu2 := hidI (HAu1.out.below hb2 (by omega))
       have HFu2 := hidI (HFu1.out.below hb2 (by omega))
       have HOu2 := hidI (own_below HOu1.out hb2)
       have BTu2 := BTu1.trans (But.of_below hb2)
       have ZDu2 := hidI (ZDu1.out.below hb2 (by omega))
       have FDu2 := hidI (FDu1.out.below hb2 (by omega))
       clear hb2 HAu1 HFu1 HOu1 ZDu1 FDu1
       clear hh d0
       have r2 := ZDu2.out 2 _ rfl
       have rf2 := FDu2.out 2
       have sT : (u2.setCell ⟨wr.heap.size, 2, none⟩ (.string (sumS (ofL (formR x.cd x.tx.data.toList)) W))).heap.size = u2.heap.size := by simp
       have bT : Below wr.heap.size u2 (u2.setCell ⟨wr.heap.size, 2, none⟩ (.string (sumS (ofL (formR x.cd x.tx.data.toList)) W))) := (Below.refl _ _).setCell (p := ⟨wr.heap.size, 2, none⟩) (Nat.le_refl _) _
       have HAv := hidI (HAu2.out.below bT (by omega))
       have HFv := hidI (HFu2.out.below bT (by omega))
       have HOv := hidI (own_keep HOu2.out (fun q hq => bT.block q (hDn q hq)))
       have BTv : But A E (u2.setCell ⟨wr.heap.size, 2, none⟩ (.string (sumS (ofL (formR x.cd x.tx.data.toList)) W))) := ⟨bT.os.trans BTu2.os, bT.tape.trans BTu2.tape, bT.output.trans BTu2.output, by omega, fun q hq hne => (bT.block q (by omega)).trans (BTu2.block q hq hne)⟩
       have ZDv : Hid (BlkAt (u2.setCell ⟨wr.heap.size, 2, none⟩ (.string (sumS (ofL (formR x.cd x.tx.data.toList)) W))) wr.heap.size [.bool x.has, .string x.nm, .string (sumS (ofL (formR x.cd x.tx.data.toList)) W)]) := ZDu2.out.set 2 _ (by simp)
       have yv := HAv.out 1 _ rfl
       clear bT
       have hbN : Below (u2.setCell ⟨wr.heap.size, 2, none⟩ (.string (sumS (ofL (formR x.cd x.tx.data.toList)) W))).heap.size (u2.setCell ⟨wr.heap.size, 2, none⟩ (.string (sumS (ofL (formR x.cd x.tx.data.toList)) W))) ((u2.setCell ⟨wr.heap.size, 2, none⟩ (.string (sumS (ofL (formR x.cd x.tx.data.toList)) W))).alloc (.cells #[.bool x.has, .string x.nm, .string (sumS (ofL (formR x.cd x.tx.data.toList)) W)] 92)) := (Below.refl _ _).alloc (Nat.le_refl _) _
       have szN : ((u2.setCell ⟨wr.heap.size, 2, none⟩ (.string (sumS (ofL (formR x.cd x.tx.data.toList)) W))).alloc (.cells #[.bool x.has, .string x.nm, .string (sumS (ofL (formR x.cd x.tx.data.toList)) W)] 92)).heap.size = u2.heap.size + 1 := by simp
       have HAn := hidI (HAv.out.below hbN (by omega))
       have HFn := hidI (HFv.out.below hbN (by omega))
       have HOn := hidI (own_below HOv.out hbN)
       have BTn := BTv.trans (But.of_below hbN)
       have HR : Hid (∀ j q, ([.bool x.has, .string x.nm, .string (sumS (ofL (formR x.cd x.tx.data.toList)) W)] : List Value)[j]? = some q → ((u2.setCell ⟨wr.heap.size, 2, none⟩ (.string (sumS (ofL (formR x.cd x.tx.data.toList)) W))).alloc (.cells #[.bool x.has, .string x.nm, .string (sumS (ofL (formR x.cd x.tx.data.toList)) W)] 92)).cell? ((⟨u2.heap.size, 0, none⟩ : Addr).add j) = some q) := fun j q hj => by
        rw [adr_add, Nat.zero_add]
        have h := blk_new (u2.setCell ⟨wr.heap.size, 2, none⟩ (.string (sumS (ofL (formR x.cd x.tx.data.toList)) W))) [.bool x.has, .string x.nm, .string (sumS (ofL (formR x.cd x.tx.data.toList)) W)] 92 j q hj
        rw [sT] at h
        exact h
       clear HAu2 HFu2 HOu2 HAv HFv HOv hbN
       go_wp2_with (first | refine wpList_load_blk rfl 92 (.tmp 11) rfl wr.heap.size rfl [.bool x.has, .string x.nm, .string (sumS (ofL (formR x.cd x.tx.data.toList)) W)] _ ZDv.out Tryz.underlying92 rfl (by kernel_rfl) ?_ | (refine wpList_app rfl (.tmp 63) (.tmp 65) 65 rfl E.heap.size 92 i0 (.agg #[.bool false, .string ⟨#[]⟩, .string ⟨#[]⟩]) 3 40 Tryz.underlying65 hi hz0 hz1 hz2 rfl (by decide) (.slice av k cv) k (glC W (ls.take k)) rfl HOn.out ⟨u2.heap.size, 0, none⟩ 1 1 [.bool x.has, .string x.nm, .string (sumS (ofL (formR x.cd x.tx.data.toList)) W)] rfl rfl HR.out (by simp [Value.oneCell']) (by unfold maxLen; omega) (by omega) (by omega) ?_; intro v' w6 hO6 hgrow; obtain ⟨a6, c6, rfl⟩ := row_form hO6; have hb6 : Below E.heap.size ((u2.setCell ⟨wr.heap.size, 2, none⟩ (.string (sumS (ofL (formR x.cd x.tx.data.toList)) W))).alloc (.cells #[.bool x.has, .string x.nm, .string (sumS (ofL (formR x.cd x.tx.data.toList)) W)] 92)) w6 := (Below.refl _ _).grown hgrow (by omega) (fun q hq => own_blk HOn.out hq); have s6 := hb6.size; have HO6 := hidI hO6; have HA6 := hidI (HAn.out.below hb6 hA2); have HF6 := hidI (HFn.out.below hb6 hA2); have BT6 : But A E w6 := ⟨hb6.os.trans BTn.os, hb6.tape.trans BTn.tape, hb6.output.trans BTn.output, by omega, fun q hq hne => (hb6.block q hq).trans (BTn.block q hq hne)⟩; have y6 := HA6.out 1 _ rfl; have f6 := HF6.out 1; clear hO6 hgrow hb6 HAn HFn HOn HR ZDv r2 rf2 yv))
       have HA7 : Hid (BlkAt (w6.setCell ⟨A, 1, none⟩ (.slice a6 (k + 1) c6)) A [.string (m.tl ++ ⟨#[32]⟩ ++ m.ar), .slice a6 (k + 1) c6, .string (sumS (ofL (formR c t.data.toList)) W)]) := HA6.out.set 1 _ (by simp)
       have HF7 : Hid (OpnAt (w6.setCell ⟨A, 1, none⟩ (.slice a6 (k + 1) c6)) A) := HF6.out.set _ _
       have HO7 : Hid ((w6.setCell ⟨A, 1, none⟩ (.slice a6 (k + 1) c6)).ownsRow E.heap.size 92 3 (.slice a6 (k + 1) c6) (k + 1) (glC W (ls.take (k + 1)))) := by
        show World.ownsRow _ _ _ _ _ _ _
        rw [HT.out, glC_snoc, HG.out]
        exact own_set HO6.out _ _ (by show A < _; omega)
       have BT7 : But A E (w6.setCell ⟨A, 1, none⟩ (.slice a6 (k + 1) c6)) := BT6.setCell 1 _
       go_roundw
       case rel => exact ⟨k + 1, .slice a6 (k + 1) c6, by omega, by go_num, HA7, HF7, HO7, BT7⟩
       case measure => simp [intOf]; omega
     · rw [hh] at d0
       obtain ⟨s, hs0⟩ : ∃ s : ByteArray, s = if (x.cd == 0) = true then ⟨#[49]⟩ else ⟨#[48]⟩ := ⟨_, rfl⟩
       have HS := hidI hs0
       have HG : Hid (glT x = s) := by show glT x = _; rw [hs0]; unfold glT; rw [hh]; by_cases h0 : x.cd = 0 <;> simp [h0]
       have hsz : s.size ≤ 1048700 := by rw [← HG.out]; exact hxs.2
       clear hs0
       go_wp2_with fail
       refine (c52s (x.cd == 0) s uB HS.out).mono ?_
       rintro e u1 ⟨rfl, hb1⟩
       have szu1 := hb1.size
       have HAu1 := hidI (HAB.out.below hb1 (by omega))
       have HFu1 := hidI (HFB.out.below hb1 (by omega))
       have HOu1 := hidI (own_below HOB.out hb1)
       have BTu1 := BTB.trans (But.of_below hb1)
       have ZDu1 := hidI (ZDB.out.below hb1 (by omega))
       have FDu1 := hidI (FDB.out.below hb1 (by omega))
       clear hb1 HAB HFB HOB ZDB FDB
       go_wp2_with fail
       refine (c47 s W u1 hsz).mono ?_
       rintro e u2 ⟨rfl, hb2⟩
       have szu2 := hb2.size
       have HAu2 := hidI (HAu1.out.below hb2 (by omega))
       have HFu2 := hidI (HFu1.out.below hb2 (by omega))
       have HOu2 := hidI (own_below HOu1.out hb2)
       have BTu2 := BTu1.trans (But.of_below hb2)
       have ZDu2 := hidI (ZDu1.out.below hb2 (by omega))
       have FDu2 := hidI (FDu1.out.below hb2 (by omega))
       clear hb2 HAu1 HFu1 HOu1 ZDu1 FDu1
       clear hh d0
       have r2 := ZDu2.out 2 _ rfl
       have rf2 := FDu2.out 2
       have sT : (u2.setCell ⟨wr.heap.size, 2, none⟩ (.string (sumS s W))).heap.size = u2.heap.size := by simp
       have bT : Below wr.heap.size u2 (u2.setCell ⟨wr.heap.size, 2, none⟩ (.string (sumS s W))) := (Below.refl _ _).setCell (p := ⟨wr.heap.size, 2, none⟩) (Nat.le_refl _) _
       have HAv := hidI (HAu2.out.below bT (by omega))
       have HFv := hidI (HFu2.out.below bT (by omega))
       have HOv := hidI (own_keep HOu2.out (fun q hq => bT.block q (hDn q hq)))
       have BTv : But A E (u2.setCell ⟨wr.heap.size, 2, none⟩ (.string (sumS s W))) := ⟨bT.os.trans BTu2.os, bT.tape.trans BTu2.tape, bT.output.trans BTu2.output, by omega, fun q hq hne => (bT.block q (by omega)).trans (BTu2.block q hq hne)⟩
       have ZDv : Hid (BlkAt (u2.setCell ⟨wr.heap.size, 2, none⟩ (.string (sumS s W))) wr.heap.size [.bool x.has, .string x.nm, .string (sumS s W)]) := ZDu2.out.set 2 _ (by simp)
       have yv := HAv.out 1 _ rfl
       clear bT
       have hbN : Below (u2.setCell ⟨wr.heap.size, 2, none⟩ (.string (sumS s W))).heap.size (u2.setCell ⟨wr.heap.size, 2, none⟩ (.string (sumS s W))) ((u2.setCell ⟨wr.heap.size, 2, none⟩ (.string (sumS s W))).alloc (.cells #[.bool x.has, .string x.nm, .string (sumS s W)] 92)) := (Below.refl _ _).alloc (Nat.le_refl _) _
       have szN : ((u2.setCell ⟨wr.heap.size, 2, none⟩ (.string (sumS s W))).alloc (.cells #[.bool x.has, .string x.nm, .string (sumS s W)] 92)).heap.size = u2.heap.size + 1 := by simp
       have HAn := hidI (HAv.out.below hbN (by omega))
       have HFn := hidI (HFv.out.below hbN (by omega))
       have HOn := hidI (own_below HOv.out hbN)
       have BTn := BTv.trans (But.of_below hbN)
       have HR : Hid (∀ j q, ([.bool x.has, .string x.nm, .string (sumS s W)] : List Value)[j]? = some q → ((u2.setCell ⟨wr.heap.size, 2, none⟩ (.string (sumS s W))).alloc (.cells #[.bool x.has, .string x.nm, .string (sumS s W)] 92)).cell? ((⟨u2.heap.size, 0, none⟩ : Addr).add j) = some q) := fun j q hj => by
        rw [adr_add, Nat.zero_add]
        have h := blk_new (u2.setCell ⟨wr.heap.size, 2, none⟩ (.string (sumS s W))) [.bool x.has, .string x.nm, .string (sumS s W)] 92 j q hj
        rw [sT] at h
        exact h
       clear HAu2 HFu2 HOu2 HAv HFv HOv hbN
       go_wp2_with (first | refine wpList_load_blk rfl 92 (.tmp 11) rfl wr.heap.size rfl [.bool x.has, .string x.nm, .string (sumS s W)] _ ZDv.out Tryz.underlying92 rfl (by kernel_rfl) ?_ | (refine wpList_app rfl (.tmp 63) (.tmp 65) 65 rfl E.heap.size 92 i0 (.agg #[.bool false, .string ⟨#[]⟩, .string ⟨#[]⟩]) 3 40 Tryz.underlying65 hi hz0 hz1 hz2 rfl (by decide) (.slice av k cv) k (glC W (ls.take k)) rfl HOn.out ⟨u2.heap.size, 0, none⟩ 1 1 [.bool x.has, .string x.nm, .string (sumS s W)] rfl rfl HR.out (by simp [Value.oneCell']) (by unfold maxLen; omega) (by omega) (by omega) ?_; intro v' w6 hO6 hgrow; obtain ⟨a6, c6, rfl⟩ := row_form hO6; have hb6 : Below E.heap.size ((u2.setCell ⟨wr.heap.size, 2, none⟩ (.string (sumS s W))).alloc (.cells #[.bool x.has, .string x.nm, .string (sumS s W)] 92)) w6 := (Below.refl _ _).grown hgrow (by omega) (fun q hq => own_blk HOn.out hq); have s6 := hb6.size; have HO6 := hidI hO6; have HA6 := hidI (HAn.out.below hb6 hA2); have HF6 := hidI (HFn.out.below hb6 hA2); have BT6 : But A E w6 := ⟨hb6.os.trans BTn.os, hb6.tape.trans BTn.tape, hb6.output.trans BTn.output, by omega, fun q hq hne => (hb6.block q hq).trans (BTn.block q hq hne)⟩; have y6 := HA6.out 1 _ rfl; have f6 := HF6.out 1; clear hO6 hgrow hb6 HAn HFn HOn HR ZDv r2 rf2 yv))
       have HA7 : Hid (BlkAt (w6.setCell ⟨A, 1, none⟩ (.slice a6 (k + 1) c6)) A [.string (m.tl ++ ⟨#[32]⟩ ++ m.ar), .slice a6 (k + 1) c6, .string (sumS (ofL (formR c t.data.toList)) W)]) := HA6.out.set 1 _ (by simp)
       have HF7 : Hid (OpnAt (w6.setCell ⟨A, 1, none⟩ (.slice a6 (k + 1) c6)) A) := HF6.out.set _ _
       have HO7 : Hid ((w6.setCell ⟨A, 1, none⟩ (.slice a6 (k + 1) c6)).ownsRow E.heap.size 92 3 (.slice a6 (k + 1) c6) (k + 1) (glC W (ls.take (k + 1)))) := by
        show World.ownsRow _ _ _ _ _ _ _
        rw [HT.out, glC_snoc, HG.out]
        exact own_set HO6.out _ _ (by show A < _; omega)
       have BT7 : But A E (w6.setCell ⟨A, 1, none⟩ (.slice a6 (k + 1) c6)) := BT6.setCell 1 _
       go_roundw
       case rel => exact ⟨k + 1, .slice a6 (k + 1) c6, by omega, by go_num, HA7, HF7, HO7, BT7⟩
       case measure => simp [intOf]; omega
   · obtain rfl : k = ls.length := by omega
     have Z7 : Hid (BlkAt wr (w.heap.size + 2) [.string ⟨#[]⟩, .slice none 0 0, .string ⟨#[]⟩]) := fun j q hq => (BTr.cell (p := ⟨w.heap.size + 2, j, none⟩) (show w.heap.size + 2 < E.heap.size by omega) (show w.heap.size + 2 ≠ A by omega)).trans (HZR.out j q hq)
     have F7 : Hid (OpnAt wr (w.heap.size + 2)) := fun j => (World.frozen?_of_block (a := ⟨w.heap.size + 2, j, none⟩) (BTr.block (w.heap.size + 2) (by omega) (by omega))).trans (HFR.out j)
     have hB7 : Below w.heap.size w wr := hBE.trans (BTr.below (by omega) (by omega))
     go_wp2_with (first | refine wpList_load_blk rfl 67 (.tmp 9) rfl A rfl _ _ HAr.out Tryz.underlying67 rfl (by kernel_rfl) ?_ | refine wpList_store_blk rfl 67 (.tmp 8) (.tmp 68) rfl (w.heap.size + 2) 0 rfl _ rfl (blk_some Z7.out rfl) F7.out (by simp [Value.oneCell']) (by kernel_rfl) rfl ?_)
     refine st_over (old := [.string ⟨#[]⟩, .slice none 0 0, .string ⟨#[]⟩]) (N := w.heap.size + 2) rfl Z7.out F7.out (Nat.le_refl _) ?_
     intro E' hbE' ZE' FE' hsE' hoE'
     refine bodyPost_ret (v := .agg ([.string (m.tl ++ ⟨#[32]⟩ ++ m.ar), .slice av ls.length cv, .string (sumS (ofL (formR c t.data.toList)) W)] : List Value).toArray) (results_blk (P := Tryz.prog) (ty := 67) rfl _ E' (w.heap.size + 2) [.string (m.tl ++ ⟨#[32]⟩ ++ m.ar), .slice av ls.length cv, .string (sumS (ofL (formR c t.data.toList)) W)] _ rfl ZE' Tryz.underlying67 rfl (by kernel_rfl)) rfl ⟨⟨_, rfl, ?_⟩, hB7.trans (hbE'.mono (by omega))⟩
     have hO7 := HOr.out
     rw [List.take_length] at hO7
     exact own_low (own_other hO7 hsE' (fun q hq hne => hoE' q hq hne) (by omega)) (by omega)
 have hV : Below V.heap.size V V := Below.refl _ _
 have hVdrew : Below V.heap.size V V.drew := (Below.refl _ _).drew
 have p1Vd := (ZA.out.below hVdrew (by omega)) 1 _ rfl
 have p2Vd := (ZA.out.below hVdrew (by omega)) 2 _ rfl
 have q0Vd := (ZB.out.below hVdrew (by omega)) 0 _ rfl
 have q1Vd := (ZB.out.below hVdrew (by omega)) 1 _ rfl
 refine wp_region_held_drew (S := (fun u => u.cell? ⟨w.heap.size, 1, none⟩ = some (.string m.tl) ∧ u.cell? ⟨w.heap.size, 2, none⟩ = some (.string m.ar) ∧ u.cell? ⟨w.heap.size + 1, 0, none⟩ = some (.int .i64 c) ∧ u.cell? ⟨w.heap.size + 1, 1, none⟩ = some (.string t))) (by kernel_rfl) ?_ (fun hHeld => ?_)
 · exact ⟨p1Vd, p2Vd, q0Vd, q1Vd⟩
 refine wpAnyH_take (i := 0) (oi := ⟨some 12, .fieldAddr 41 (.tmp 4) 1, 0, "l5_store.go:152", #[], none⟩) (v := ?_) rfl (by kernel_rfl) (by kernel_rfl) (by kernel_rfl) (fun _ _ _ h => h) (Or.inl ⟨by rfl, ?_⟩) (by assumption) ?_
 rotate_left
 · intro wq hSw
   (try dsimp only at hSw)
   go_simp
   try with_reducible rfl
 try simp only [Act.put, qA, qB, qC]
 refine wpAnyH_take (i := 1) (oi := ⟨some 13, .load 9 (.tmp 12), 9, "l5_store.go:152", #[⟨0, .data⟩], none⟩) (v := ?_) rfl (by kernel_rfl) (by kernel_rfl) (by kernel_rfl) (fun _ _ _ h => h) (Or.inl ⟨by rfl, ?_⟩) (by assumption) ?_
 rotate_left
 · intro wq hSw
   (try dsimp only at hSw)
   go_simp
   try with_reducible rfl
 try simp only [Act.put, qA, qB, qC]
 refine wpAnyH_take (i := 2) (oi := ⟨some 14, .binOp .add 9 (.tmp 13) (.const (.string { data := #[32] })) 9, 9, "l5_store.go:152", #[⟨1, .data⟩], none⟩) (v := ?_) rfl (by kernel_rfl) (by kernel_rfl) (by kernel_rfl) (fun _ _ _ h => h) (Or.inl ⟨by rfl, ?_⟩) (by assumption) ?_
 rotate_left
 · intro wq hSw
   (try dsimp only at hSw)
   go_simp
   try with_reducible rfl
 try simp only [Act.put, qA, qB, qC]
 refine wpAnyH_take (i := 3) (oi := ⟨some 15, .fieldAddr 41 (.tmp 4) 2, 0, "l5_store.go:152", #[], none⟩) (v := ?_) rfl (by kernel_rfl) (by kernel_rfl) (by kernel_rfl) (fun _ _ _ h => h) (Or.inl ⟨by rfl, ?_⟩) (by assumption) ?_
 rotate_left
 · intro wq hSw
   (try dsimp only at hSw)
   go_simp
   try with_reducible rfl
 try simp only [Act.put, qA, qB, qC]
 refine wpAnyH_take (i := 4) (oi := ⟨some 16, .load 9 (.tmp 15), 9, "l5_store.go:152", #[⟨3, .data⟩], none⟩) (v := ?_) rfl (by kernel_rfl) (by kernel_rfl) (by kernel_rfl) (fun _ _ _ h => h) (Or.inl ⟨by rfl, ?_⟩) (by assumption) ?_
 rotate_left
 · intro wq hSw
   (try dsimp only at hSw)
   go_simp
   try with_reducible rfl
 try simp only [Act.put, qA, qB, qC]
 refine wpAnyH_take (i := 5) (oi := ⟨some 17, .binOp .add 9 (.tmp 14) (.tmp 16) 9, 9, "l5_store.go:152", #[⟨2, .data⟩, ⟨4, .data⟩], none⟩) (v := ?_) rfl (by kernel_rfl) (by kernel_rfl) (by kernel_rfl) (fun _ _ _ h => h) (Or.inl ⟨by rfl, ?_⟩) (by assumption) ?_
 rotate_left
 · intro wq hSw
   (try dsimp only at hSw)
   go_simp
   try with_reducible rfl
 try simp only [Act.put, qA, qB, qC]
 refine wpAnyH_take (i := 6) (oi := ⟨some 18, .load 45 (.tmp 6), 45, "l5_store.go:152", #[], none⟩) (v := ?_) rfl (by kernel_rfl) (by kernel_rfl) (by kernel_rfl) (fun _ _ _ h => h) (Or.inl ⟨by rfl, ?_⟩) (by assumption) ?_
 rotate_left
 · intro wq hSw
   (try dsimp only at hSw)
   go_simp
   try with_reducible rfl
 try simp only [Act.put, qA, qB, qC]
 refine wpAnyH_take (i := 8) (oi := ⟨some 20, .move (.tmp 3), 3, "l5_store.go:152", #[], none⟩) (v := ?_) rfl (by kernel_rfl) (by kernel_rfl) (by kernel_rfl) (fun _ _ _ h => h) (Or.inl ⟨by rfl, ?_⟩) (by assumption) ?_
 rotate_left
 · intro wq hSw
   (try dsimp only at hSw)
   go_simp
   try with_reducible rfl
 try simp only [Act.put, qA, qB, qC]
 refine wpAnyH_ready (rs := [7, 11]) (by kernel_rfl) (by simp) ?_
 refine AllReadyH.cons (o := ⟨some 19, .call ⟨.value (.func 26), #[.tmp 18], #[45]⟩, 9, "l5_store.go:152", #[⟨6, .data⟩], none⟩) rfl (fun K hK => ?_) (AllReadyH.cons (o := ⟨some 9, .alloc 67, 0, "l5_store.go:152", #[], none⟩) rfl (fun K hK => ?_) AllReadyH.nil)
 · go_simp
   refine (c26 c t V.drew ht).mono ?_
   rintro e uB ⟨rfl, hbn⟩
   have huB := hVdrew.trans (hbn.mono hVdrew.size)
   have zuB := hbn.size
   have p1uB := (ZA.out.below huB (by omega)) 1 _ rfl
   have p2uB := (ZA.out.below huB (by omega)) 2 _ rfl
   have q0uB := (ZB.out.below huB (by omega)) 0 _ rfl
   have q1uB := (ZB.out.below huB (by omega)) 1 _ rfl
   clear hbn
   go_simp
   clear hHeld
   refine hK.out _ _ ?_ (fun hHeld => ?_)
   · exact ⟨p1uB, p2uB, q0uB, q1uB⟩
   clear hK K
   try simp only [Act.put, qA, qB, qC]
   refine wpAnyH_ready (rs := [9, 11]) (by kernel_rfl) (by simp) ?_
   refine AllReadyH.cons (o := ⟨some 21, .call ⟨.value (.func 47), #[.tmp 19, .tmp 20], #[9, 3]⟩, 9, "l5_store.go:152", #[⟨7, .data⟩, ⟨8, .data⟩, ⟨7, .chain⟩], none⟩) rfl (fun K hK => ?_) (AllReadyH.cons (o := ⟨some 9, .alloc 67, 0, "l5_store.go:152", #[], none⟩) rfl (fun K hK => ?_) AllReadyH.nil)
   · go_simp
     refine (c47 (ofL (formR c t.data.toList)) W uB hf).mono ?_
     rintro e uC ⟨rfl, hbn⟩
     have huC := huB.trans (hbn.mono huB.size)
     have zuC := hbn.size
     have p1uC := (ZA.out.below huC (by omega)) 1 _ rfl
     have p2uC := (ZA.out.below huC (by omega)) 2 _ rfl
     have q0uC := (ZB.out.below huC (by omega)) 0 _ rfl
     have q1uC := (ZB.out.below huC (by omega)) 1 _ rfl
     clear hbn
     go_simp
     clear hHeld
     refine hK.out _ _ ?_ (fun hHeld => ?_)
     · exact ⟨p1uC, p2uC, q0uC, q1uC⟩
     clear hK K
     try simp only [Act.put, qA, qB, qC]
     refine wpAnyH_take (i := 10) (oi := ⟨some 22, .build 67 #[(0, .tmp 17), (2, .tmp 21)], 67, "l5_store.go:152", #[⟨5, .data⟩, ⟨9, .data⟩], none⟩) (v := ?_) rfl (by kernel_rfl) (by kernel_rfl) (by kernel_rfl) (fun _ _ _ h => h) (Or.inl ⟨by rfl, ?_⟩) (by assumption) ?_
     rotate_left
     · intro wq hSw
       (try dsimp only at hSw)
       go_simp
       try with_reducible rfl
     try simp only [Act.put, qA, qB, qC]
     refine wpAnyH_ready (rs := [11]) (by kernel_rfl) (by simp) ?_
     refine AllReadyH.cons (o := ⟨some 9, .alloc 67, 0, "l5_store.go:152", #[], none⟩) rfl (fun K hK => ?_) AllReadyH.nil
     go_simp
     have huD : Below V.heap.size V (uC.alloc (.cells #[.string ⟨#[]⟩, .slice none 0 0, .string ⟨#[]⟩] 67)) := huC.alloc huC.size _
     have HAuD := hidI (blk_new uC [.string ⟨#[]⟩, .slice none 0 0, .string ⟨#[]⟩] 67)
     have HOuD := hidI (opn_new uC ([.string ⟨#[]⟩, .slice none 0 0, .string ⟨#[]⟩] : List Value).toArray 67)
     have zuD : (uC.alloc (.cells #[.string ⟨#[]⟩, .slice none 0 0, .string ⟨#[]⟩] 67)).heap.size = uC.heap.size + 1 := by simp
     have luD := huC.size
     have p1uD := (ZA.out.below huD (by omega)) 1 _ rfl
     have p2uD := (ZA.out.below huD (by omega)) 2 _ rfl
     have q0uD := (ZB.out.below huD (by omega)) 0 _ rfl
     have q1uD := (ZB.out.below huD (by omega)) 1 _ rfl
     clear hHeld
     refine hK.out _ _ ?_ (fun hHeld => ?_)
     · exact ⟨p1uD, p2uD, q0uD, q1uD⟩
     clear hK K
     try simp only [Act.put, qA, qB, qC]
     generalize (uC.alloc (.cells #[.string ⟨#[]⟩, .slice none 0 0, .string ⟨#[]⟩] 67)) = uD at *
     refine wpAnyH_ready (rs := [12]) (by kernel_rfl) (by simp) ?_
     refine AllReadyH.cons (o := ⟨none, .store 67 (.tmp 9) (.tmp 22), 0, "l5_store.go:152", #[⟨11, .data⟩, ⟨10, .data⟩, ⟨9, .chain⟩, ⟨0, .phase⟩, ⟨1, .phase⟩, ⟨2, .phase⟩, ⟨3, .phase⟩, ⟨4, .phase⟩, ⟨5, .phase⟩, ⟨6, .phase⟩, ⟨7, .phase⟩, ⟨8, .phase⟩, ⟨9, .phase⟩, ⟨10, .phase⟩, ⟨11, .phase⟩], none⟩) rfl (fun K hK => ?_) AllReadyH.nil
     refine step_store_blk rfl 67 (.tmp 9) (.tmp 22) rfl uC.heap.size 0 rfl [.string (m.tl ++ ⟨#[32]⟩ ++ m.ar), .slice none 0 0, .string (sumS (ofL (formR c t.data.toList)) W)] rfl (blk_some HAuD.out rfl) HOuD.out (by simp [Value.oneCell']) (by kernel_rfl) rfl ?_
     clear hHeld
     refine st_over (old := [.string ⟨#[]⟩, .slice none 0 0, .string ⟨#[]⟩]) (N := V.heap.size) rfl HAuD.out HOuD.out (by omega) ?_
     intro E hbE ZE FE hsE hoE
     have hE := huD.trans hbE
     have p1E := (ZA.out.below hE (by omega)) 1 _ rfl
     have p2E := (ZA.out.below hE (by omega)) 2 _ rfl
     have q0E := (ZB.out.below hE (by omega)) 0 _ rfl
     have q1E := (ZB.out.below hE (by omega)) 1 _ rfl
     refine hK.out _ _ ⟨p1E, p2E, q0E, q1E⟩ (fun hHeld => ?_)
     clear hK K
     refine wpAnyH_done (by kernel_rfl) ?_ _
     exact TAIL uC.heap.size E hE (by omega) (by omega) ZE FE
   · go_simp
     have huC : Below V.heap.size V (uB.alloc (.cells #[.string ⟨#[]⟩, .slice none 0 0, .string ⟨#[]⟩] 67)) := huB.alloc huB.size _
     have HAuC := hidI (blk_new uB [.string ⟨#[]⟩, .slice none 0 0, .string ⟨#[]⟩] 67)
     have HOuC := hidI (opn_new uB ([.string ⟨#[]⟩, .slice none 0 0, .string ⟨#[]⟩] : List Value).toArray 67)
     have zuC : (uB.alloc (.cells #[.string ⟨#[]⟩, .slice none 0 0, .string ⟨#[]⟩] 67)).heap.size = uB.heap.size + 1 := by simp
     have luC := huB.size
     have p1uC := (ZA.out.below huC (by omega)) 1 _ rfl
     have p2uC := (ZA.out.below huC (by omega)) 2 _ rfl
     have q0uC := (ZB.out.below huC (by omega)) 0 _ rfl
     have q1uC := (ZB.out.below huC (by omega)) 1 _ rfl
     clear hHeld
     refine hK.out _ _ ?_ (fun hHeld => ?_)
     · exact ⟨p1uC, p2uC, q0uC, q1uC⟩
     clear hK K
     try simp only [Act.put, qA, qB, qC]
     generalize (uB.alloc (.cells #[.string ⟨#[]⟩, .slice none 0 0, .string ⟨#[]⟩] 67)) = uC at *
     refine wpAnyH_ready (rs := [9]) (by kernel_rfl) (by simp) ?_
     refine AllReadyH.cons (o := ⟨some 21, .call ⟨.value (.func 47), #[.tmp 19, .tmp 20], #[9, 3]⟩, 9, "l5_store.go:152", #[⟨7, .data⟩, ⟨8, .data⟩, ⟨7, .chain⟩], none⟩) rfl (fun K hK => ?_) AllReadyH.nil
     go_simp
     refine (c47 (ofL (formR c t.data.toList)) W uC hf).mono ?_
     rintro e uD ⟨rfl, hbn⟩
     have huD := huC.trans (hbn.mono huC.size)
     have zuD := hbn.size
     have p1uD := (ZA.out.below huD (by omega)) 1 _ rfl
     have p2uD := (ZA.out.below huD (by omega)) 2 _ rfl
     have q0uD := (ZB.out.below huD (by omega)) 0 _ rfl
     have q1uD := (ZB.out.below huD (by omega)) 1 _ rfl
     have HAuD := hidI (HAuC.out.below hbn (by omega))
     have HOuD := hidI (HOuC.out.below hbn (by omega))
     clear HAuC HOuC
     clear hbn
     go_simp
     clear hHeld
     refine hK.out _ _ ?_ (fun hHeld => ?_)
     · exact ⟨p1uD, p2uD, q0uD, q1uD⟩
     clear hK K
     try simp only [Act.put, qA, qB, qC]
     refine wpAnyH_take (i := 10) (oi := ⟨some 22, .build 67 #[(0, .tmp 17), (2, .tmp 21)], 67, "l5_store.go:152", #[⟨5, .data⟩, ⟨9, .data⟩], none⟩) (v := ?_) rfl (by kernel_rfl) (by kernel_rfl) (by kernel_rfl) (fun _ _ _ h => h) (Or.inl ⟨by rfl, ?_⟩) (by assumption) ?_
     rotate_left
     · intro wq hSw
       (try dsimp only at hSw)
       go_simp
       try with_reducible rfl
     try simp only [Act.put, qA, qB, qC]
     refine wpAnyH_ready (rs := [12]) (by kernel_rfl) (by simp) ?_
     refine AllReadyH.cons (o := ⟨none, .store 67 (.tmp 9) (.tmp 22), 0, "l5_store.go:152", #[⟨11, .data⟩, ⟨10, .data⟩, ⟨9, .chain⟩, ⟨0, .phase⟩, ⟨1, .phase⟩, ⟨2, .phase⟩, ⟨3, .phase⟩, ⟨4, .phase⟩, ⟨5, .phase⟩, ⟨6, .phase⟩, ⟨7, .phase⟩, ⟨8, .phase⟩, ⟨9, .phase⟩, ⟨10, .phase⟩, ⟨11, .phase⟩], none⟩) rfl (fun K hK => ?_) AllReadyH.nil
     refine step_store_blk rfl 67 (.tmp 9) (.tmp 22) rfl uB.heap.size 0 rfl [.string (m.tl ++ ⟨#[32]⟩ ++ m.ar), .slice none 0 0, .string (sumS (ofL (formR c t.data.toList)) W)] rfl (blk_some HAuD.out rfl) HOuD.out (by simp [Value.oneCell']) (by kernel_rfl) rfl ?_
     clear hHeld
     refine st_over (old := [.string ⟨#[]⟩, .slice none 0 0, .string ⟨#[]⟩]) (N := V.heap.size) rfl HAuD.out HOuD.out (by omega) ?_
     intro E hbE ZE FE hsE hoE
     have hE := huD.trans hbE
     have p1E := (ZA.out.below hE (by omega)) 1 _ rfl
     have p2E := (ZA.out.below hE (by omega)) 2 _ rfl
     have q0E := (ZB.out.below hE (by omega)) 0 _ rfl
     have q1E := (ZB.out.below hE (by omega)) 1 _ rfl
     refine hK.out _ _ ⟨p1E, p2E, q0E, q1E⟩ (fun hHeld => ?_)
     clear hK K
     refine wpAnyH_done (by kernel_rfl) ?_ _
     exact TAIL uB.heap.size E hE (by omega) (by omega) ZE FE
 · go_simp
   have huA : Below V.heap.size V ((V.alloc (.cells #[.string ⟨#[]⟩, .slice none 0 0, .string ⟨#[]⟩] 67)).drew) := (hV.alloc hV.size _).drew
   have HAuA : Hid (BlkAt ((V.alloc (.cells #[.string ⟨#[]⟩, .slice none 0 0, .string ⟨#[]⟩] 67)).drew) (w.heap.size + 3) [.string ⟨#[]⟩, .slice none 0 0, .string ⟨#[]⟩]) := hz ▸ hidI ((blk_new V [.string ⟨#[]⟩, .slice none 0 0, .string ⟨#[]⟩] 67).below (Below.refl (V.heap.size + 1) _).drew (by omega))
   have HOuA : Hid (OpnAt ((V.alloc (.cells #[.string ⟨#[]⟩, .slice none 0 0, .string ⟨#[]⟩] 67)).drew) (w.heap.size + 3)) := hz ▸ hidI ((opn_new V ([.string ⟨#[]⟩, .slice none 0 0, .string ⟨#[]⟩] : List Value).toArray 67).below (Below.refl (V.heap.size + 1) _).drew (by omega))
   have zuA : ((V.alloc (.cells #[.string ⟨#[]⟩, .slice none 0 0, .string ⟨#[]⟩] 67)).drew).heap.size = V.heap.size + 1 := by simp
   have p1uA := (ZA.out.below huA (by omega)) 1 _ rfl
   have p2uA := (ZA.out.below huA (by omega)) 2 _ rfl
   have q0uA := (ZB.out.below huA (by omega)) 0 _ rfl
   have q1uA := (ZB.out.below huA (by omega)) 1 _ rfl
   clear hHeld
   refine hK.out _ _ ?_ (fun hHeld => ?_)
   · exact ⟨p1uA, p2uA, q0uA, q1uA⟩
   clear hK K
   try simp only [Act.put, qA, qB, qC]
   generalize ((V.alloc (.cells #[.string ⟨#[]⟩, .slice none 0 0, .string ⟨#[]⟩] 67)).drew) = uA at *
   refine wpAnyH_ready (rs := [7]) (by kernel_rfl) (by simp) ?_
   refine AllReadyH.cons (o := ⟨some 19, .call ⟨.value (.func 26), #[.tmp 18], #[45]⟩, 9, "l5_store.go:152", #[⟨6, .data⟩], none⟩) rfl (fun K hK => ?_) AllReadyH.nil
   go_simp
   refine (c26 c t uA ht).mono ?_
   rintro e uB ⟨rfl, hbn⟩
   have huB := huA.trans (hbn.mono huA.size)
   have zuB := hbn.size
   have p1uB := (ZA.out.below huB (by omega)) 1 _ rfl
   have p2uB := (ZA.out.below huB (by omega)) 2 _ rfl
   have q0uB := (ZB.out.below huB (by omega)) 0 _ rfl
   have q1uB := (ZB.out.below huB (by omega)) 1 _ rfl
   have HAuB := hidI (HAuA.out.below hbn (by omega))
   have HOuB := hidI (HOuA.out.below hbn (by omega))
   clear HAuA HOuA
   clear hbn
   go_simp
   clear hHeld
   refine hK.out _ _ ?_ (fun hHeld => ?_)
   · exact ⟨p1uB, p2uB, q0uB, q1uB⟩
   clear hK K
   try simp only [Act.put, qA, qB, qC]
   refine wpAnyH_ready (rs := [9]) (by kernel_rfl) (by simp) ?_
   refine AllReadyH.cons (o := ⟨some 21, .call ⟨.value (.func 47), #[.tmp 19, .tmp 20], #[9, 3]⟩, 9, "l5_store.go:152", #[⟨7, .data⟩, ⟨8, .data⟩, ⟨7, .chain⟩], none⟩) rfl (fun K hK => ?_) AllReadyH.nil
   go_simp
   refine (c47 (ofL (formR c t.data.toList)) W uB hf).mono ?_
   rintro e uC ⟨rfl, hbn⟩
   have huC := huB.trans (hbn.mono huB.size)
   have zuC := hbn.size
   have p1uC := (ZA.out.below huC (by omega)) 1 _ rfl
   have p2uC := (ZA.out.below huC (by omega)) 2 _ rfl
   have q0uC := (ZB.out.below huC (by omega)) 0 _ rfl
   have q1uC := (ZB.out.below huC (by omega)) 1 _ rfl
   have HAuC := hidI (HAuB.out.below hbn (by omega))
   have HOuC := hidI (HOuB.out.below hbn (by omega))
   clear HAuB HOuB
   clear hbn
   go_simp
   clear hHeld
   refine hK.out _ _ ?_ (fun hHeld => ?_)
   · exact ⟨p1uC, p2uC, q0uC, q1uC⟩
   clear hK K
   try simp only [Act.put, qA, qB, qC]
   refine wpAnyH_take (i := 10) (oi := ⟨some 22, .build 67 #[(0, .tmp 17), (2, .tmp 21)], 67, "l5_store.go:152", #[⟨5, .data⟩, ⟨9, .data⟩], none⟩) (v := ?_) rfl (by kernel_rfl) (by kernel_rfl) (by kernel_rfl) (fun _ _ _ h => h) (Or.inl ⟨by rfl, ?_⟩) (by assumption) ?_
   rotate_left
   · intro wq hSw
     (try dsimp only at hSw)
     go_simp
     try with_reducible rfl
   try simp only [Act.put, qA, qB, qC]
   refine wpAnyH_ready (rs := [12]) (by kernel_rfl) (by simp) ?_
   refine AllReadyH.cons (o := ⟨none, .store 67 (.tmp 9) (.tmp 22), 0, "l5_store.go:152", #[⟨11, .data⟩, ⟨10, .data⟩, ⟨9, .chain⟩, ⟨0, .phase⟩, ⟨1, .phase⟩, ⟨2, .phase⟩, ⟨3, .phase⟩, ⟨4, .phase⟩, ⟨5, .phase⟩, ⟨6, .phase⟩, ⟨7, .phase⟩, ⟨8, .phase⟩, ⟨9, .phase⟩, ⟨10, .phase⟩, ⟨11, .phase⟩], none⟩) rfl (fun K hK => ?_) AllReadyH.nil
   refine step_store_blk rfl 67 (.tmp 9) (.tmp 22) rfl (w.heap.size + 3) 0 rfl [.string (m.tl ++ ⟨#[32]⟩ ++ m.ar), .slice none 0 0, .string (sumS (ofL (formR c t.data.toList)) W)] rfl (blk_some HAuC.out rfl) HOuC.out (by simp [Value.oneCell']) (by kernel_rfl) rfl ?_
   clear hHeld
   refine st_over (old := [.string ⟨#[]⟩, .slice none 0 0, .string ⟨#[]⟩]) (N := V.heap.size) rfl HAuC.out HOuC.out (by omega) ?_
   intro E hbE ZE FE hsE hoE
   have hE := huC.trans hbE
   have p1E := (ZA.out.below hE (by omega)) 1 _ rfl
   have p2E := (ZA.out.below hE (by omega)) 2 _ rfl
   have q0E := (ZB.out.below hE (by omega)) 0 _ rfl
   have q1E := (ZB.out.below hE (by omega)) 1 _ rfl
   refine hK.out _ _ ⟨p1E, p2E, q0E, q1E⟩ (fun hHeld => ?_)
   clear hK K
   refine wpAnyH_done (by kernel_rfl) ?_ _
   exact TAIL (w.heap.size + 3) E hE (by omega) (by omega) ZE FE
end Go.Proofs.YtkhlekmicpmpkaaGreatDoor
