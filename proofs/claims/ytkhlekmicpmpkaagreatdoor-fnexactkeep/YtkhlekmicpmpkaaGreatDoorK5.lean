import Derived.Test.YtkhlekmicpmpkaaGreatDoorK4
import Derived.Deep.RegionHeld3
namespace Go.Proofs.YtkhlekmicpmpkaaGreatDoor
open Go.RowKit
set_option maxRecDepth 100000
set_option linter.unusedVariables false
def glC (W : Int) (ls : List L4) : List Value := ls.flatMap fun x => [.bool x.has, .string x.nm, .string (sumS (glT x) W)]
theorem own_lt {u : World} {base e size n : Nat} {v : Value} {xs : List Value} (h : u.ownsRow base e size v n xs) {k : Nat} (hk : v.ownBlock = some k) : k < u.heap.size := by
 rcases h.2 with ⟨hv, _⟩ | ⟨g, cap, cur, hv, hg, hh, _⟩
 · subst hv; simp [Value.ownBlock] at hk
 · subst hv
   simp [Value.ownBlock] at hk
   obtain rfl := hk
   exact (Array.getElem?_eq_some_iff.1 hh).1
theorem own_set {u : World} {base e size n : Nat} {v : Value} {xs : List Value} (h : u.ownsRow base e size v n xs) (p : Addr) (x : Value) (hp : p.block < base) : (u.setCell p x).ownsRow base e size v n xs := by
 refine ⟨h.1, h.2.imp id ?_⟩
 rintro ⟨g, cap, cur, h1, h2, h3, h4⟩
 exact ⟨g, cap, cur, h1, h2, (Below.heap_setCell _ _ _ _ (by omega)).trans h3, h4⟩
theorem glC_snoc (W : Int) (l : List L4) (x : L4) : glC W (l ++ [x]) = glC W l ++ [.bool x.has, .string x.nm, .string (sumS (glT x) W)] := by simp [glC]
theorem own_below {u u' : World} {base e size n : Nat} {v : Value} {xs : List Value} (h : u.ownsRow base e size v n xs) (hb : Below u.heap.size u u') : u'.ownsRow base e size v n xs := by
 refine ⟨h.1, h.2.imp id ?_⟩
 rintro ⟨g, cap, cur, h1, h2, h3, h4⟩
 exact ⟨g, cap, cur, h1, h2, (hb.block g (Array.getElem?_eq_some_iff.1 h3).1).trans h3, h4⟩
theorem own_other {u u' : World} {R base e size n : Nat} {v : Value} {xs : List Value} (h : u.ownsRow base e size v n xs) (hs : u.heap.size ≤ u'.heap.size) (ho : ∀ k, k < u.heap.size → k ≠ R → u'.heap[k]? = u.heap[k]?) (hR : R < base) : u'.ownsRow base e size v n xs := by
 refine ⟨h.1, h.2.imp id ?_⟩
 rintro ⟨g, cap, cur, h1, h2, h3, h4⟩
 exact ⟨g, cap, cur, h1, h2, (ho g (Array.getElem?_eq_some_iff.1 h3).1 (by omega)).trans h3, h4⟩
theorem own_low {u : World} {base base' e size n : Nat} {v : Value} {xs : List Value} (h : u.ownsRow base e size v n xs) (hb : base' ≤ base) : u.ownsRow base' e size v n xs := by
 refine ⟨h.1, h.2.imp id ?_⟩
 rintro ⟨g, cap, cur, h1, h2, h3, h4⟩
 exact ⟨g, cap, cur, h1, Nat.le_trans hb h2, h3, h4⟩
set_option maxHeartbeats 8000000 in
theorem c64 (m : M3) (ls : List L4) (c : Int) (t : ByteArray) (W : Int) (H : Nat) (a : Option Addr) (cap : Nat) (w : World) (hm : m.le 1048600) (ht : t.size ≤ 1048700) (hf : (ofL (formR c t.data.toList)).size ≤ 1048700) (hl : ls.length ≤ 1048576) (hs : ∀ i, (ls.getD i l4z).tx.size ≤ 1048600 ∧ (glT (ls.getD i l4z)).size ≤ 1048700) (hat : LksAt w a ls) (hH : H < w.heap.size) (hW : w.cell? ⟨H, 0, none⟩ = some (.int .i64 W)) :
 Calls Tryz.prog 64 #[.pointer (some ⟨H, 0, none⟩), .agg #[.string m.nm, .string m.tl, .string m.ar], .slice a ls.length cap, .agg #[.int .i64 c, .string t]] w fun e w' => (∃ v, e = .returned (.agg #[.string (keyR m), v, .string (sumS (ofL (formR c t.data.toList)) W)]) ∧ w'.ownsRow w.heap.size 92 3 v ls.length (glC W ls)) ∧ Below w.heap.size w w' := by
 have hB0 : Below w.heap.size w (((w.alloc (.cells #[.string m.nm, .string m.tl, .string m.ar] 41)).alloc (.cells #[.int .i64 c, .string t] 45)).alloc (.cells #[.string ⟨#[]⟩, .slice none 0 0, .string ⟨#[]⟩] 67)) := (((Below.refl _ _).alloc (Nat.le_refl _) _).alloc (by simp) _).alloc (by simp; omega) _
 have hz : (((w.alloc (.cells #[.string m.nm, .string m.tl, .string m.ar] 41)).alloc (.cells #[.int .i64 c, .string t] 45)).alloc (.cells #[.string ⟨#[]⟩, .slice none 0 0, .string ⟨#[]⟩] 67)).heap.size = w.heap.size + 3 := by simp
 have hV0 := (hB0.cell (p := ⟨H, 0, none⟩) hH).trans hW
 have ZA : Hid (BlkAt (((w.alloc (.cells #[.string m.nm, .string m.tl, .string m.ar] 41)).alloc (.cells #[.int .i64 c, .string t] 45)).alloc (.cells #[.string ⟨#[]⟩, .slice none 0 0, .string ⟨#[]⟩] 67)) w.heap.size [.string m.nm, .string m.tl, .string m.ar]) := fun j x hx => by
  match j with
  | 0 => obtain rfl := Option.some.inj hx; simp [go_sem]
  | 1 => obtain rfl := Option.some.inj hx; simp [go_sem]
  | 2 => obtain rfl := Option.some.inj hx; simp [go_sem]
  | j + 3 => simp at hx
 have ZB : Hid (BlkAt (((w.alloc (.cells #[.string m.nm, .string m.tl, .string m.ar] 41)).alloc (.cells #[.int .i64 c, .string t] 45)).alloc (.cells #[.string ⟨#[]⟩, .slice none 0 0, .string ⟨#[]⟩] 67)) (w.heap.size + 1) [.int .i64 c, .string t]) := fun j x hx => by
  match j with
  | 0 => obtain rfl := Option.some.inj hx; simp [go_sem]
  | 1 => obtain rfl := Option.some.inj hx; simp [go_sem]
  | j + 2 => simp at hx
 have ZR : Hid (BlkAt (((w.alloc (.cells #[.string m.nm, .string m.tl, .string m.ar] 41)).alloc (.cells #[.int .i64 c, .string t] 45)).alloc (.cells #[.string ⟨#[]⟩, .slice none 0 0, .string ⟨#[]⟩] 67)) (w.heap.size + 2) [.string ⟨#[]⟩, .slice none 0 0, .string ⟨#[]⟩]) := fun j x hx => by simp [go_sem, hx]
 have FR : Hid (OpnAt (((w.alloc (.cells #[.string m.nm, .string m.tl, .string m.ar] 41)).alloc (.cells #[.int .i64 c, .string t] 45)).alloc (.cells #[.string ⟨#[]⟩, .slice none 0 0, .string ⟨#[]⟩] 67)) (w.heap.size + 2)) := fun j => by simp [go_sem]
 have HL := hidI (lks_below hat hB0)
 clear hat
 go_enter Tryz.func64, Tryz.ntmps64
 go_wp2_with fail
 generalize (((w.alloc (.cells #[.string m.nm, .string m.tl, .string m.ar] 41)).alloc (.cells #[.int .i64 c, .string t] 45)).alloc (.cells #[.string ⟨#[]⟩, .slice none 0 0, .string ⟨#[]⟩] 67)) = V at *
 rename_i K0 hK0
 have TAIL : ∀ (A : Nat) (E : World), Below V.heap.size V E → V.heap.size ≤ A → A < E.heap.size → BlkAt E A [.string (keyR m), .slice none 0 0, .string (sumS (ofL (formR c t.data.toList)) W)] → OpnAt E A → K0 { tmps := #[.pointer (some ⟨H, 0, none⟩), .agg #[.string m.nm, .string m.tl, .string m.ar], .slice a ls.length cap, .agg #[.int .i64 c, .string t], undef, .pointer (some ⟨w.heap.size, 0, none⟩), undef, .pointer (some ⟨w.heap.size + 1, 0, none⟩), .pointer (some ⟨w.heap.size + 2, 0, none⟩), .pointer (some ⟨A, 0, none⟩), undef, undef, .agg #[.string m.nm, .string m.tl, .string m.ar], .string (keyR m), .agg #[.int .i64 c, .string t], .string (ofL (formR c t.data.toList)), .pointer (some ⟨H, 0, none⟩), .pointer (some ⟨H, 0, none⟩), .pointer (some ⟨H, 0, none⟩), .int .i64 W, .string (sumS (ofL (formR c t.data.toList)) W), .agg #[.string (keyR m), .slice none 0 0, .string (sumS (ofL (formR c t.data.toList)) W)], undef, undef, undef, undef, undef, undef, undef, undef, undef, undef, undef, undef, undef, undef, undef, undef], defers := [] } E := by
  intro A E hE hA1 hA2 hM hF
  obtain ⟨i0, hi, hz0, hz1, hz2⟩ := info_parts' info92
  have hsE := hE.size
  have hBE := hB0.trans (hE.mono hB0.size)
  have HZR := hidI (ZR.out.below hE (by omega))
  have HFR := hidI (FR.out.below hE (by omega))
  have fHE := (hE.cell (p := ⟨H, 0, none⟩) (show H < V.heap.size by omega)).trans hV0
  have HM := hidI hM
  have HFA := hidI hF
  obtain ⟨b, off, hc⟩ := lks_some HL.out
  have HC := hidI hc
  clear hM hF hc ZA ZB ZR FR HL
  refine hK0 _ _ ?_
  clear hK0
  go_wp2_with fail
  go_loopw [24] (fun i wr => ∃ (k : Nat) (v : Value), k ≤ ls.length ∧ i = .int .i64 k ∧ Hid (BlkAt wr A [.string (keyR m), v, .string (sumS (ofL (formR c t.data.toList)) W)]) ∧ Hid (OpnAt wr A) ∧ Hid (wr.ownsRow E.heap.size 92 3 v k (glC W (ls.take k))) ∧ But A E wr) (fun i _ => ls.length - (intOf i).toNat)
  case atStart => exact ⟨0, .slice none 0 0, Nat.zero_le _, rfl, HM, HFA, World.ownsRow_nil _ _ _ _, But.refl _ _⟩
  case round =>
   obtain ⟨k, v, hk, rfl, HAr, HFr, HOr, BTr⟩ := hrel
   obtain ⟨av, cv, rfl⟩ := row_form HOr.out
   have szr := BTr.size
   by_cases hlt : k < ls.length
   · rcases HC.out with hss | ⟨ha, hbw, hcell⟩
     · rw [hss] at hlt; exact absurd hlt (Nat.not_lt_zero _)
     subst ha
     have hbE : b < E.heap.size ∧ b ≠ A := ⟨by omega, by omega⟩
     have g0 := (BTr.cell (p := ⟨b, off + k * 4, none⟩) hbE.1 hbE.2).trans ((hE.cell (p := ⟨b, off + k * 4, none⟩) hbw).trans (hcell k hlt).1)
     have g1 := (BTr.cell (p := ⟨b, off + k * 4 + 1, none⟩) hbE.1 hbE.2).trans ((hE.cell (p := ⟨b, off + k * 4 + 1, none⟩) hbw).trans (hcell k hlt).2.1)
     have g2 := (BTr.cell (p := ⟨b, off + k * 4 + 2, none⟩) hbE.1 hbE.2).trans ((hE.cell (p := ⟨b, off + k * 4 + 2, none⟩) hbw).trans (hcell k hlt).2.2.1)
     have g3 := (BTr.cell (p := ⟨b, off + k * 4 + 3, none⟩) hbE.1 hbE.2).trans ((hE.cell (p := ⟨b, off + k * 4 + 3, none⟩) hbw).trans (hcell k hlt).2.2.2)
     have HT := hidI (take_next hlt)
     have hxs := hs k
     have hDn : ∀ q, (Value.slice av k cv).ownBlock = some q → q < wr.heap.size := fun q hq => own_lt HOr.out hq
     clear hcell
     generalize ls.getD k l4z = x at *
     have hbA : Below wr.heap.size wr (wr.alloc (.cells #[.bool x.has, .string x.nm, .int .i64 x.cd, .string x.tx] 61)) := (Below.refl _ _).alloc (Nat.le_refl _) _
     have szA : (wr.alloc (.cells #[.bool x.has, .string x.nm, .int .i64 x.cd, .string x.tx] 61)).heap.size = wr.heap.size + 1 := by simp
     have HAA := hidI (HAr.out.below hbA (by omega))
     have HFA' := hidI (HFr.out.below hbA (by omega))
     have HOA := hidI (own_below HOr.out hbA)
     have BTA := BTr.trans (But.of_below hbA)
     have e0A := blk_new wr [.bool x.has, .string x.nm, .int .i64 x.cd, .string x.tx] 61 0 _ rfl
     have e1A := blk_new wr [.bool x.has, .string x.nm, .int .i64 x.cd, .string x.tx] 61 1 _ rfl
     have e2A := blk_new wr [.bool x.has, .string x.nm, .int .i64 x.cd, .string x.tx] 61 2 _ rfl
     have e3A := blk_new wr [.bool x.has, .string x.nm, .int .i64 x.cd, .string x.tx] 61 3 _ rfl
     go_wp2_with fail
     clear g0 g1 g2 g3 HAr HFr HOr
     generalize (wr.alloc (.cells #[.bool x.has, .string x.nm, .int .i64 x.cd, .string x.tx] 61)) = uA at *
     have hbd : Below uA.heap.size uA uA.drew := (Below.refl _ _).drew
     have HFA := HFA'
     have szD0 := hbd.size
     have HAD0 := hidI (HAA.out.below hbd (by omega))
     have HFD0 := hidI (HFA.out.below hbd (by omega))
     have HOD0 := hidI (own_below HOA.out hbd)
     have BTD0 := BTA.trans (But.of_below hbd)
     have e0D0 := (hbd.cell (p := ⟨wr.heap.size, 0, none⟩) (show wr.heap.size < _ by omega)).trans e0A
     have e1D0 := (hbd.cell (p := ⟨wr.heap.size, 1, none⟩) (show wr.heap.size < _ by omega)).trans e1A
     have e2D0 := (hbd.cell (p := ⟨wr.heap.size, 2, none⟩) (show wr.heap.size < _ by omega)).trans e2A
     have e3D0 := (hbd.cell (p := ⟨wr.heap.size, 3, none⟩) (show wr.heap.size < _ by omega)).trans e3A
     have yD0 := HAD0.out 1 _ rfl
     have fHD0 := (BTD0.cell (p := ⟨H, 0, none⟩) (show H < E.heap.size by omega) (show H ≠ A by omega)).trans fHE
     clear HAA HFA' HOA hbd
     refine wp_region_held_drew (S := (fun u => u.cell? ⟨wr.heap.size, 0, none⟩ = some (.bool x.has) ∧ u.cell? ⟨wr.heap.size, 1, none⟩ = some (.string x.nm) ∧ u.cell? ⟨wr.heap.size, 2, none⟩ = some (.int .i64 x.cd) ∧ u.cell? ⟨wr.heap.size, 3, none⟩ = some (.string x.tx))) (by kernel_rfl) ?_ (fun hHeld => ?_)
     · exact ⟨e0D0, e1D0, e2D0, e3D0⟩
     refine wpAnyH_take (i := 0) (oi := ⟨some 28, .fieldAddr 67 (.tmp 9) 1, 0, "l5_store.go:320", #[], none⟩) (v := ?_) rfl (by kernel_rfl) (by kernel_rfl) (by kernel_rfl) (fun _ _ _ h => h) (Or.inl ⟨by rfl, ?_⟩) (by assumption) ?_
     rotate_left
     · intro wq hSw
       (try dsimp only at hSw)
       go_simp
       try with_reducible rfl
     try simp only [Act.put, qA, qB, qC]
     refine wpAnyH_take (i := 2) (oi := ⟨some 30, .move (.tmp 0), 73, "l5_store.go:320", #[], none⟩) (v := ?_) rfl (by kernel_rfl) (by kernel_rfl) (by kernel_rfl) (fun _ _ _ h => h) (Or.inl ⟨by rfl, ?_⟩) (by assumption) ?_
     rotate_left
     · intro wq hSw
       (try dsimp only at hSw)
       go_simp
       try with_reducible rfl
     try simp only [Act.put, qA, qB, qC]
     refine wpAnyH_take (i := 3) (oi := ⟨some 31, .load 61 (.tmp 11), 61, "l5_store.go:320", #[], none⟩) (v := ?_) rfl (by kernel_rfl) (by kernel_rfl) (by kernel_rfl) (fun _ _ _ h => h) (Or.inl ⟨by rfl, ?_⟩) (by assumption) ?_
     rotate_left
     · intro wq hSw
       (try dsimp only at hSw)
       go_simp
       try with_reducible rfl
     try simp only [Act.put, qA, qB, qC]
     refine wpAnyH_ready (rs := [1, 4]) (by kernel_rfl) (by simp) ?_
     refine AllReadyH.cons (o := ⟨some 29, .load 65 (.tmp 28), 65, "l5_store.go:320", #[⟨0, .data⟩], none⟩) rfl (fun K hK => ?_) (AllReadyH.cons (o := ⟨some 32, .call ⟨.value (.func 90), #[.tmp 30, .tmp 31], #[73, 61]⟩, 92, "l5_store.go:320", #[⟨2, .data⟩, ⟨3, .data⟩], none⟩) rfl (fun K hK => ?_) AllReadyH.nil)
     · go_simp
       clear hHeld
       refine hK.out _ _ ?_ (fun hHeld => ?_)
       · exact ⟨e0D0, e1D0, e2D0, e3D0⟩
       clear hK K
       try simp only [Act.put, qA, qB, qC]
       refine wpAnyH_ready (rs := [4]) (by kernel_rfl) (by simp) ?_
       refine AllReadyH.cons (o := ⟨some 32, .call ⟨.value (.func 90), #[.tmp 30, .tmp 31], #[73, 61]⟩, 92, "l5_store.go:320", #[⟨2, .data⟩, ⟨3, .data⟩], none⟩) rfl (fun K hK => ?_) AllReadyH.nil
       go_simp
       refine (c90 x W H uA.drew hxs.1 (by omega) fHD0 hxs.2).mono ?_
       rintro e u1 ⟨rfl, hbn⟩
       have szu1 := hbn.size
       have HAu1 := hidI (HAD0.out.below hbn (by omega))
       have HFu1 := hidI (HFD0.out.below hbn (by omega))
       have HOu1 := hidI (own_below HOD0.out hbn)
       have BTu1 := BTD0.trans (But.of_below hbn)
       have e0u1 := (hbn.cell (p := ⟨wr.heap.size, 0, none⟩) (show wr.heap.size < _ by omega)).trans e0D0
       have e1u1 := (hbn.cell (p := ⟨wr.heap.size, 1, none⟩) (show wr.heap.size < _ by omega)).trans e1D0
       have e2u1 := (hbn.cell (p := ⟨wr.heap.size, 2, none⟩) (show wr.heap.size < _ by omega)).trans e2D0
       have e3u1 := (hbn.cell (p := ⟨wr.heap.size, 3, none⟩) (show wr.heap.size < _ by omega)).trans e3D0
       have yu1 := HAu1.out 1 _ rfl
       have fHu1 := (BTu1.cell (p := ⟨H, 0, none⟩) (show H < E.heap.size by omega) (show H ≠ A by omega)).trans fHE
       clear hbn HAD0 HFD0 HOD0
       go_simp
       clear hHeld
       refine hK.out _ _ ?_ (fun hHeld => ?_)
       · exact ⟨e0u1, e1u1, e2u1, e3u1⟩
       clear hK K
       try simp only [Act.put, qA, qB, qC]
       refine wpAnyH_ready (rs := [5]) (by kernel_rfl) (by simp) ?_
       refine AllReadyH.cons (o := ⟨some 33, .buildSlice 65 1 #[(0, .tmp 32)], 65, "l5_store.go:320", #[⟨4, .data⟩], none⟩) rfl (fun K hK => ?_) AllReadyH.nil
       go_simp
       have hbn : Below u1.heap.size u1 (u1.alloc (.cells #[.bool x.has, .string x.nm, .string (sumS (glT x) W)] 92)) := (Below.refl _ _).alloc (Nat.le_refl _) _
       have szq : (u1.alloc (.cells #[.bool x.has, .string x.nm, .string (sumS (glT x) W)] 92)).heap.size = u1.heap.size + 1 := by simp
       have szu2 := hbn.size
       have HAu2 := hidI (HAu1.out.below hbn (by omega))
       have HFu2 := hidI (HFu1.out.below hbn (by omega))
       have HOu2 := hidI (own_below HOu1.out hbn)
       have BTu2 := BTu1.trans (But.of_below hbn)
       have e0u2 := (hbn.cell (p := ⟨wr.heap.size, 0, none⟩) (show wr.heap.size < _ by omega)).trans e0u1
       have e1u2 := (hbn.cell (p := ⟨wr.heap.size, 1, none⟩) (show wr.heap.size < _ by omega)).trans e1u1
       have e2u2 := (hbn.cell (p := ⟨wr.heap.size, 2, none⟩) (show wr.heap.size < _ by omega)).trans e2u1
       have e3u2 := (hbn.cell (p := ⟨wr.heap.size, 3, none⟩) (show wr.heap.size < _ by omega)).trans e3u1
       have yu2 := HAu2.out 1 _ rfl
       have fHu2 := (BTu2.cell (p := ⟨H, 0, none⟩) (show H < E.heap.size by omega) (show H ≠ A by omega)).trans fHE
       have HR : Hid (∀ j u, ([.bool x.has, .string x.nm, .string (sumS (glT x) W)] : List Value)[j]? = some u → (u1.alloc (.cells #[.bool x.has, .string x.nm, .string (sumS (glT x) W)] 92)).cell? ((⟨u1.heap.size, 0, none⟩ : Addr).add j) = some u) := fun j q hj => by
        rw [adr_add, Nat.zero_add]
        exact blk_new u1 [.bool x.has, .string x.nm, .string (sumS (glT x) W)] 92 j q hj
       clear hbn HAu1 HFu1 HOu1
       clear hHeld
       refine hK.out _ _ ?_ (fun hHeld => ?_)
       · exact ⟨e0u2, e1u2, e2u2, e3u2⟩
       clear hK K
       try simp only [Act.put, qA, qB, qC]
       generalize (u1.alloc (.cells #[.bool x.has, .string x.nm, .string (sumS (glT x) W)] 92)) = u2 at *
       refine wpAnyH_ready (rs := [6]) (by kernel_rfl) (by simp) ?_
       refine AllReadyH.cons (o := ⟨some 34, .call ⟨.builtin .append, #[.tmp 29, .tmp 33], #[65, 65]⟩, 65, "l5_store.go:320", #[⟨1, .data⟩, ⟨5, .data⟩, ⟨4, .chain⟩], none⟩) rfl (fun K hK => ?_) AllReadyH.nil
       refine step_app rfl (.tmp 29) (.tmp 33) 65 rfl E.heap.size 92 i0 (.agg #[.bool false, .string ⟨#[]⟩, .string ⟨#[]⟩]) 3 40 Tryz.underlying65 hi hz0 hz1 hz2 rfl (by decide) (.slice av k cv) k (glC W (ls.take k)) rfl HOu2.out ⟨u1.heap.size, 0, none⟩ 1 1 [.bool x.has, .string x.nm, .string (sumS (glT x) W)] rfl rfl HR.out (by simp [Value.oneCell']) (by unfold maxLen; omega) (by omega) (by omega) ?_
       intro v' w6 hO6 hgrow
       obtain ⟨a6, c6, rfl⟩ := row_form hO6
       have hb6 : Below E.heap.size u2 w6 := (Below.refl _ _).grown hgrow (by omega) (fun q hq => own_blk HOu2.out hq)
       have s6 := hb6.size
       have hD6 : w6.heap[wr.heap.size]? = u2.heap[wr.heap.size]? := hgrow.block wr.heap.size (by omega) (fun h => by have := hDn wr.heap.size h.symm; omega)
       have HO6 := hidI hO6
       have HA6 := hidI (HAu2.out.below hb6 hA2)
       have HF6 := hidI (HFu2.out.below hb6 hA2)
       have BT6 : But A E w6 := ⟨hb6.os.trans BTu2.os, hb6.tape.trans BTu2.tape, hb6.output.trans BTu2.output, by omega, fun q hq hne => (hb6.block q hq).trans (BTu2.block q hq hne)⟩
       have y6 := HA6.out 1 _ rfl
       have f6 := HF6.out 1
       have e06 := (World.cell?_of_block (a := ⟨wr.heap.size, 0, none⟩) hD6).trans e0u2
       have e16 := (World.cell?_of_block (a := ⟨wr.heap.size, 1, none⟩) hD6).trans e1u2
       have e26 := (World.cell?_of_block (a := ⟨wr.heap.size, 2, none⟩) hD6).trans e2u2
       have e36 := (World.cell?_of_block (a := ⟨wr.heap.size, 3, none⟩) hD6).trans e3u2
       clear hO6 HR hgrow hb6
       clear hHeld
       refine hK.out _ _ ?_ (fun hHeld => ?_)
       · exact ⟨e06, e16, e26, e36⟩
       clear hK K
       try simp only [Act.put, qA, qB, qC]
       refine wpAnyH_take (i := 7) (oi := ⟨some 35, .fieldAddr 67 (.tmp 9) 1, 0, "l5_store.go:320", #[⟨0, .phase⟩, ⟨1, .phase⟩, ⟨2, .phase⟩, ⟨3, .phase⟩, ⟨4, .phase⟩, ⟨5, .phase⟩, ⟨6, .phase⟩], none⟩) (v := ?_) rfl (by kernel_rfl) (by kernel_rfl) (by kernel_rfl) (fun _ _ _ h => h) (Or.inl ⟨by rfl, ?_⟩) (by assumption) ?_
       rotate_left
       · intro wq hSw
         (try dsimp only at hSw)
         go_simp
         try with_reducible rfl
       try simp only [Act.put, qA, qB, qC]
       refine wpAnyH_ready (rs := [8]) (by kernel_rfl) (by simp) ?_
       refine AllReadyH.cons (o := ⟨none, .store 65 (.tmp 35) (.tmp 34), 0, "l5_store.go:320", #[⟨7, .data⟩, ⟨6, .data⟩, ⟨6, .chain⟩, ⟨0, .phase⟩, ⟨1, .phase⟩, ⟨2, .phase⟩, ⟨3, .phase⟩, ⟨4, .phase⟩, ⟨5, .phase⟩, ⟨6, .phase⟩], none⟩) rfl (fun K hK => ?_) AllReadyH.nil
       go_simp
       have HA7 : Hid (BlkAt (w6.setCell ⟨A, 1, none⟩ (.slice a6 (k + 1) c6)) A [.string (keyR m), .slice a6 (k + 1) c6, .string (sumS (ofL (formR c t.data.toList)) W)]) := HA6.out.set 1 _ (by simp)
       have HF7 : Hid (OpnAt (w6.setCell ⟨A, 1, none⟩ (.slice a6 (k + 1) c6)) A) := HF6.out.set _ _
       have HO7 : Hid ((w6.setCell ⟨A, 1, none⟩ (.slice a6 (k + 1) c6)).ownsRow E.heap.size 92 3 (.slice a6 (k + 1) c6) (k + 1) (glC W (ls.take (k + 1)))) := by
        show World.ownsRow _ _ _ _ _ _ _
        rw [HT.out, glC_snoc]
        exact own_set HO6.out _ _ (by show A < _; omega)
       have BT7 : But A E (w6.setCell ⟨A, 1, none⟩ (.slice a6 (k + 1) c6)) := BT6.setCell 1 _
       have e07 : (w6.setCell ⟨A, 1, none⟩ (.slice a6 (k + 1) c6)).cell? ⟨wr.heap.size, 0, none⟩ = some _ := (World.cell?_setCell_other _ _ _ _ (fun h => by injection h; omega)).trans e06
       have e17 : (w6.setCell ⟨A, 1, none⟩ (.slice a6 (k + 1) c6)).cell? ⟨wr.heap.size, 1, none⟩ = some _ := (World.cell?_setCell_other _ _ _ _ (fun h => by injection h; omega)).trans e16
       have e27 : (w6.setCell ⟨A, 1, none⟩ (.slice a6 (k + 1) c6)).cell? ⟨wr.heap.size, 2, none⟩ = some _ := (World.cell?_setCell_other _ _ _ _ (fun h => by injection h; omega)).trans e26
       have e37 : (w6.setCell ⟨A, 1, none⟩ (.slice a6 (k + 1) c6)).cell? ⟨wr.heap.size, 3, none⟩ = some _ := (World.cell?_setCell_other _ _ _ _ (fun h => by injection h; omega)).trans e36
       clear hHeld
       refine hK.out _ _ ?_ (fun hHeld => ?_)
       · exact ⟨e07, e17, e27, e37⟩
       clear hK K
       try simp only [Act.put, qA, qB, qC]
       generalize (w6.setCell ⟨A, 1, none⟩ (.slice a6 (k + 1) c6)) = w7 at *
       refine wpAnyH_done (by kernel_rfl) ?_ _
       go_wp2
       go_roundw
       case rel => exact ⟨k + 1, .slice a6 (k + 1) c6, by omega, by go_num, HA7, HF7, HO7, BT7⟩
       case measure => simp [intOf]; omega
     · go_simp
       refine (c90 x W H uA.drew hxs.1 (by omega) fHD0 hxs.2).mono ?_
       rintro e u1 ⟨rfl, hbn⟩
       have szu1 := hbn.size
       have HAu1 := hidI (HAD0.out.below hbn (by omega))
       have HFu1 := hidI (HFD0.out.below hbn (by omega))
       have HOu1 := hidI (own_below HOD0.out hbn)
       have BTu1 := BTD0.trans (But.of_below hbn)
       have e0u1 := (hbn.cell (p := ⟨wr.heap.size, 0, none⟩) (show wr.heap.size < _ by omega)).trans e0D0
       have e1u1 := (hbn.cell (p := ⟨wr.heap.size, 1, none⟩) (show wr.heap.size < _ by omega)).trans e1D0
       have e2u1 := (hbn.cell (p := ⟨wr.heap.size, 2, none⟩) (show wr.heap.size < _ by omega)).trans e2D0
       have e3u1 := (hbn.cell (p := ⟨wr.heap.size, 3, none⟩) (show wr.heap.size < _ by omega)).trans e3D0
       have yu1 := HAu1.out 1 _ rfl
       have fHu1 := (BTu1.cell (p := ⟨H, 0, none⟩) (show H < E.heap.size by omega) (show H ≠ A by omega)).trans fHE
       clear hbn HAD0 HFD0 HOD0
       go_simp
       clear hHeld
       refine hK.out _ _ ?_ (fun hHeld => ?_)
       · exact ⟨e0u1, e1u1, e2u1, e3u1⟩
       clear hK K
       try simp only [Act.put, qA, qB, qC]
       refine wpAnyH_ready (rs := [1, 5]) (by kernel_rfl) (by simp) ?_
       refine AllReadyH.cons (o := ⟨some 29, .load 65 (.tmp 28), 65, "l5_store.go:320", #[⟨0, .data⟩], none⟩) rfl (fun K hK => ?_) (AllReadyH.cons (o := ⟨some 33, .buildSlice 65 1 #[(0, .tmp 32)], 65, "l5_store.go:320", #[⟨4, .data⟩], none⟩) rfl (fun K hK => ?_) AllReadyH.nil)
       · go_simp
         clear hHeld
         refine hK.out _ _ ?_ (fun hHeld => ?_)
         · exact ⟨e0u1, e1u1, e2u1, e3u1⟩
         clear hK K
         try simp only [Act.put, qA, qB, qC]
         refine wpAnyH_ready (rs := [5]) (by kernel_rfl) (by simp) ?_
         refine AllReadyH.cons (o := ⟨some 33, .buildSlice 65 1 #[(0, .tmp 32)], 65, "l5_store.go:320", #[⟨4, .data⟩], none⟩) rfl (fun K hK => ?_) AllReadyH.nil
         go_simp
         have hbn : Below u1.heap.size u1 (u1.alloc (.cells #[.bool x.has, .string x.nm, .string (sumS (glT x) W)] 92)) := (Below.refl _ _).alloc (Nat.le_refl _) _
         have szq : (u1.alloc (.cells #[.bool x.has, .string x.nm, .string (sumS (glT x) W)] 92)).heap.size = u1.heap.size + 1 := by simp
         have szu2 := hbn.size
         have HAu2 := hidI (HAu1.out.below hbn (by omega))
         have HFu2 := hidI (HFu1.out.below hbn (by omega))
         have HOu2 := hidI (own_below HOu1.out hbn)
         have BTu2 := BTu1.trans (But.of_below hbn)
         have e0u2 := (hbn.cell (p := ⟨wr.heap.size, 0, none⟩) (show wr.heap.size < _ by omega)).trans e0u1
         have e1u2 := (hbn.cell (p := ⟨wr.heap.size, 1, none⟩) (show wr.heap.size < _ by omega)).trans e1u1
         have e2u2 := (hbn.cell (p := ⟨wr.heap.size, 2, none⟩) (show wr.heap.size < _ by omega)).trans e2u1
         have e3u2 := (hbn.cell (p := ⟨wr.heap.size, 3, none⟩) (show wr.heap.size < _ by omega)).trans e3u1
         have yu2 := HAu2.out 1 _ rfl
         have fHu2 := (BTu2.cell (p := ⟨H, 0, none⟩) (show H < E.heap.size by omega) (show H ≠ A by omega)).trans fHE
         have HR : Hid (∀ j u, ([.bool x.has, .string x.nm, .string (sumS (glT x) W)] : List Value)[j]? = some u → (u1.alloc (.cells #[.bool x.has, .string x.nm, .string (sumS (glT x) W)] 92)).cell? ((⟨u1.heap.size, 0, none⟩ : Addr).add j) = some u) := fun j q hj => by
          rw [adr_add, Nat.zero_add]
          exact blk_new u1 [.bool x.has, .string x.nm, .string (sumS (glT x) W)] 92 j q hj
         clear hbn HAu1 HFu1 HOu1
         clear hHeld
         refine hK.out _ _ ?_ (fun hHeld => ?_)
         · exact ⟨e0u2, e1u2, e2u2, e3u2⟩
         clear hK K
         try simp only [Act.put, qA, qB, qC]
         generalize (u1.alloc (.cells #[.bool x.has, .string x.nm, .string (sumS (glT x) W)] 92)) = u2 at *
         refine wpAnyH_ready (rs := [6]) (by kernel_rfl) (by simp) ?_
         refine AllReadyH.cons (o := ⟨some 34, .call ⟨.builtin .append, #[.tmp 29, .tmp 33], #[65, 65]⟩, 65, "l5_store.go:320", #[⟨1, .data⟩, ⟨5, .data⟩, ⟨4, .chain⟩], none⟩) rfl (fun K hK => ?_) AllReadyH.nil
         refine step_app rfl (.tmp 29) (.tmp 33) 65 rfl E.heap.size 92 i0 (.agg #[.bool false, .string ⟨#[]⟩, .string ⟨#[]⟩]) 3 40 Tryz.underlying65 hi hz0 hz1 hz2 rfl (by decide) (.slice av k cv) k (glC W (ls.take k)) rfl HOu2.out ⟨u1.heap.size, 0, none⟩ 1 1 [.bool x.has, .string x.nm, .string (sumS (glT x) W)] rfl rfl HR.out (by simp [Value.oneCell']) (by unfold maxLen; omega) (by omega) (by omega) ?_
         intro v' w6 hO6 hgrow
         obtain ⟨a6, c6, rfl⟩ := row_form hO6
         have hb6 : Below E.heap.size u2 w6 := (Below.refl _ _).grown hgrow (by omega) (fun q hq => own_blk HOu2.out hq)
         have s6 := hb6.size
         have hD6 : w6.heap[wr.heap.size]? = u2.heap[wr.heap.size]? := hgrow.block wr.heap.size (by omega) (fun h => by have := hDn wr.heap.size h.symm; omega)
         have HO6 := hidI hO6
         have HA6 := hidI (HAu2.out.below hb6 hA2)
         have HF6 := hidI (HFu2.out.below hb6 hA2)
         have BT6 : But A E w6 := ⟨hb6.os.trans BTu2.os, hb6.tape.trans BTu2.tape, hb6.output.trans BTu2.output, by omega, fun q hq hne => (hb6.block q hq).trans (BTu2.block q hq hne)⟩
         have y6 := HA6.out 1 _ rfl
         have f6 := HF6.out 1
         have e06 := (World.cell?_of_block (a := ⟨wr.heap.size, 0, none⟩) hD6).trans e0u2
         have e16 := (World.cell?_of_block (a := ⟨wr.heap.size, 1, none⟩) hD6).trans e1u2
         have e26 := (World.cell?_of_block (a := ⟨wr.heap.size, 2, none⟩) hD6).trans e2u2
         have e36 := (World.cell?_of_block (a := ⟨wr.heap.size, 3, none⟩) hD6).trans e3u2
         clear hO6 HR hgrow hb6
         clear hHeld
         refine hK.out _ _ ?_ (fun hHeld => ?_)
         · exact ⟨e06, e16, e26, e36⟩
         clear hK K
         try simp only [Act.put, qA, qB, qC]
         refine wpAnyH_take (i := 7) (oi := ⟨some 35, .fieldAddr 67 (.tmp 9) 1, 0, "l5_store.go:320", #[⟨0, .phase⟩, ⟨1, .phase⟩, ⟨2, .phase⟩, ⟨3, .phase⟩, ⟨4, .phase⟩, ⟨5, .phase⟩, ⟨6, .phase⟩], none⟩) (v := ?_) rfl (by kernel_rfl) (by kernel_rfl) (by kernel_rfl) (fun _ _ _ h => h) (Or.inl ⟨by rfl, ?_⟩) (by assumption) ?_
         rotate_left
         · intro wq hSw
           (try dsimp only at hSw)
           go_simp
           try with_reducible rfl
         try simp only [Act.put, qA, qB, qC]
         refine wpAnyH_ready (rs := [8]) (by kernel_rfl) (by simp) ?_
         refine AllReadyH.cons (o := ⟨none, .store 65 (.tmp 35) (.tmp 34), 0, "l5_store.go:320", #[⟨7, .data⟩, ⟨6, .data⟩, ⟨6, .chain⟩, ⟨0, .phase⟩, ⟨1, .phase⟩, ⟨2, .phase⟩, ⟨3, .phase⟩, ⟨4, .phase⟩, ⟨5, .phase⟩, ⟨6, .phase⟩], none⟩) rfl (fun K hK => ?_) AllReadyH.nil
         go_simp
         have HA7 : Hid (BlkAt (w6.setCell ⟨A, 1, none⟩ (.slice a6 (k + 1) c6)) A [.string (keyR m), .slice a6 (k + 1) c6, .string (sumS (ofL (formR c t.data.toList)) W)]) := HA6.out.set 1 _ (by simp)
         have HF7 : Hid (OpnAt (w6.setCell ⟨A, 1, none⟩ (.slice a6 (k + 1) c6)) A) := HF6.out.set _ _
         have HO7 : Hid ((w6.setCell ⟨A, 1, none⟩ (.slice a6 (k + 1) c6)).ownsRow E.heap.size 92 3 (.slice a6 (k + 1) c6) (k + 1) (glC W (ls.take (k + 1)))) := by
          show World.ownsRow _ _ _ _ _ _ _
          rw [HT.out, glC_snoc]
          exact own_set HO6.out _ _ (by show A < _; omega)
         have BT7 : But A E (w6.setCell ⟨A, 1, none⟩ (.slice a6 (k + 1) c6)) := BT6.setCell 1 _
         have e07 : (w6.setCell ⟨A, 1, none⟩ (.slice a6 (k + 1) c6)).cell? ⟨wr.heap.size, 0, none⟩ = some _ := (World.cell?_setCell_other _ _ _ _ (fun h => by injection h; omega)).trans e06
         have e17 : (w6.setCell ⟨A, 1, none⟩ (.slice a6 (k + 1) c6)).cell? ⟨wr.heap.size, 1, none⟩ = some _ := (World.cell?_setCell_other _ _ _ _ (fun h => by injection h; omega)).trans e16
         have e27 : (w6.setCell ⟨A, 1, none⟩ (.slice a6 (k + 1) c6)).cell? ⟨wr.heap.size, 2, none⟩ = some _ := (World.cell?_setCell_other _ _ _ _ (fun h => by injection h; omega)).trans e26
         have e37 : (w6.setCell ⟨A, 1, none⟩ (.slice a6 (k + 1) c6)).cell? ⟨wr.heap.size, 3, none⟩ = some _ := (World.cell?_setCell_other _ _ _ _ (fun h => by injection h; omega)).trans e36
         clear hHeld
         refine hK.out _ _ ?_ (fun hHeld => ?_)
         · exact ⟨e07, e17, e27, e37⟩
         clear hK K
         try simp only [Act.put, qA, qB, qC]
         generalize (w6.setCell ⟨A, 1, none⟩ (.slice a6 (k + 1) c6)) = w7 at *
         refine wpAnyH_done (by kernel_rfl) ?_ _
         go_wp2
         go_roundw
         case rel => exact ⟨k + 1, .slice a6 (k + 1) c6, by omega, by go_num, HA7, HF7, HO7, BT7⟩
         case measure => simp [intOf]; omega
       · go_simp
         have hbn : Below u1.heap.size u1 (u1.alloc (.cells #[.bool x.has, .string x.nm, .string (sumS (glT x) W)] 92)) := (Below.refl _ _).alloc (Nat.le_refl _) _
         have szq : (u1.alloc (.cells #[.bool x.has, .string x.nm, .string (sumS (glT x) W)] 92)).heap.size = u1.heap.size + 1 := by simp
         have szu2 := hbn.size
         have HAu2 := hidI (HAu1.out.below hbn (by omega))
         have HFu2 := hidI (HFu1.out.below hbn (by omega))
         have HOu2 := hidI (own_below HOu1.out hbn)
         have BTu2 := BTu1.trans (But.of_below hbn)
         have e0u2 := (hbn.cell (p := ⟨wr.heap.size, 0, none⟩) (show wr.heap.size < _ by omega)).trans e0u1
         have e1u2 := (hbn.cell (p := ⟨wr.heap.size, 1, none⟩) (show wr.heap.size < _ by omega)).trans e1u1
         have e2u2 := (hbn.cell (p := ⟨wr.heap.size, 2, none⟩) (show wr.heap.size < _ by omega)).trans e2u1
         have e3u2 := (hbn.cell (p := ⟨wr.heap.size, 3, none⟩) (show wr.heap.size < _ by omega)).trans e3u1
         have yu2 := HAu2.out 1 _ rfl
         have fHu2 := (BTu2.cell (p := ⟨H, 0, none⟩) (show H < E.heap.size by omega) (show H ≠ A by omega)).trans fHE
         have HR : Hid (∀ j u, ([.bool x.has, .string x.nm, .string (sumS (glT x) W)] : List Value)[j]? = some u → (u1.alloc (.cells #[.bool x.has, .string x.nm, .string (sumS (glT x) W)] 92)).cell? ((⟨u1.heap.size, 0, none⟩ : Addr).add j) = some u) := fun j q hj => by
          rw [adr_add, Nat.zero_add]
          exact blk_new u1 [.bool x.has, .string x.nm, .string (sumS (glT x) W)] 92 j q hj
         clear hbn HAu1 HFu1 HOu1
         clear hHeld
         refine hK.out _ _ ?_ (fun hHeld => ?_)
         · exact ⟨e0u2, e1u2, e2u2, e3u2⟩
         clear hK K
         try simp only [Act.put, qA, qB, qC]
         generalize (u1.alloc (.cells #[.bool x.has, .string x.nm, .string (sumS (glT x) W)] 92)) = u2 at *
         refine wpAnyH_ready (rs := [1]) (by kernel_rfl) (by simp) ?_
         refine AllReadyH.cons (o := ⟨some 29, .load 65 (.tmp 28), 65, "l5_store.go:320", #[⟨0, .data⟩], none⟩) rfl (fun K hK => ?_) AllReadyH.nil
         go_simp
         clear hHeld
         refine hK.out _ _ ?_ (fun hHeld => ?_)
         · exact ⟨e0u2, e1u2, e2u2, e3u2⟩
         clear hK K
         try simp only [Act.put, qA, qB, qC]
         refine wpAnyH_ready (rs := [6]) (by kernel_rfl) (by simp) ?_
         refine AllReadyH.cons (o := ⟨some 34, .call ⟨.builtin .append, #[.tmp 29, .tmp 33], #[65, 65]⟩, 65, "l5_store.go:320", #[⟨1, .data⟩, ⟨5, .data⟩, ⟨4, .chain⟩], none⟩) rfl (fun K hK => ?_) AllReadyH.nil
         refine step_app rfl (.tmp 29) (.tmp 33) 65 rfl E.heap.size 92 i0 (.agg #[.bool false, .string ⟨#[]⟩, .string ⟨#[]⟩]) 3 40 Tryz.underlying65 hi hz0 hz1 hz2 rfl (by decide) (.slice av k cv) k (glC W (ls.take k)) rfl HOu2.out ⟨u1.heap.size, 0, none⟩ 1 1 [.bool x.has, .string x.nm, .string (sumS (glT x) W)] rfl rfl HR.out (by simp [Value.oneCell']) (by unfold maxLen; omega) (by omega) (by omega) ?_
         intro v' w6 hO6 hgrow
         obtain ⟨a6, c6, rfl⟩ := row_form hO6
         have hb6 : Below E.heap.size u2 w6 := (Below.refl _ _).grown hgrow (by omega) (fun q hq => own_blk HOu2.out hq)
         have s6 := hb6.size
         have hD6 : w6.heap[wr.heap.size]? = u2.heap[wr.heap.size]? := hgrow.block wr.heap.size (by omega) (fun h => by have := hDn wr.heap.size h.symm; omega)
         have HO6 := hidI hO6
         have HA6 := hidI (HAu2.out.below hb6 hA2)
         have HF6 := hidI (HFu2.out.below hb6 hA2)
         have BT6 : But A E w6 := ⟨hb6.os.trans BTu2.os, hb6.tape.trans BTu2.tape, hb6.output.trans BTu2.output, by omega, fun q hq hne => (hb6.block q hq).trans (BTu2.block q hq hne)⟩
         have y6 := HA6.out 1 _ rfl
         have f6 := HF6.out 1
         have e06 := (World.cell?_of_block (a := ⟨wr.heap.size, 0, none⟩) hD6).trans e0u2
         have e16 := (World.cell?_of_block (a := ⟨wr.heap.size, 1, none⟩) hD6).trans e1u2
         have e26 := (World.cell?_of_block (a := ⟨wr.heap.size, 2, none⟩) hD6).trans e2u2
         have e36 := (World.cell?_of_block (a := ⟨wr.heap.size, 3, none⟩) hD6).trans e3u2
         clear hO6 HR hgrow hb6
         clear hHeld
         refine hK.out _ _ ?_ (fun hHeld => ?_)
         · exact ⟨e06, e16, e26, e36⟩
         clear hK K
         try simp only [Act.put, qA, qB, qC]
         refine wpAnyH_take (i := 7) (oi := ⟨some 35, .fieldAddr 67 (.tmp 9) 1, 0, "l5_store.go:320", #[⟨0, .phase⟩, ⟨1, .phase⟩, ⟨2, .phase⟩, ⟨3, .phase⟩, ⟨4, .phase⟩, ⟨5, .phase⟩, ⟨6, .phase⟩], none⟩) (v := ?_) rfl (by kernel_rfl) (by kernel_rfl) (by kernel_rfl) (fun _ _ _ h => h) (Or.inl ⟨by rfl, ?_⟩) (by assumption) ?_
         rotate_left
         · intro wq hSw
           (try dsimp only at hSw)
           go_simp
           try with_reducible rfl
         try simp only [Act.put, qA, qB, qC]
         refine wpAnyH_ready (rs := [8]) (by kernel_rfl) (by simp) ?_
         refine AllReadyH.cons (o := ⟨none, .store 65 (.tmp 35) (.tmp 34), 0, "l5_store.go:320", #[⟨7, .data⟩, ⟨6, .data⟩, ⟨6, .chain⟩, ⟨0, .phase⟩, ⟨1, .phase⟩, ⟨2, .phase⟩, ⟨3, .phase⟩, ⟨4, .phase⟩, ⟨5, .phase⟩, ⟨6, .phase⟩], none⟩) rfl (fun K hK => ?_) AllReadyH.nil
         go_simp
         have HA7 : Hid (BlkAt (w6.setCell ⟨A, 1, none⟩ (.slice a6 (k + 1) c6)) A [.string (keyR m), .slice a6 (k + 1) c6, .string (sumS (ofL (formR c t.data.toList)) W)]) := HA6.out.set 1 _ (by simp)
         have HF7 : Hid (OpnAt (w6.setCell ⟨A, 1, none⟩ (.slice a6 (k + 1) c6)) A) := HF6.out.set _ _
         have HO7 : Hid ((w6.setCell ⟨A, 1, none⟩ (.slice a6 (k + 1) c6)).ownsRow E.heap.size 92 3 (.slice a6 (k + 1) c6) (k + 1) (glC W (ls.take (k + 1)))) := by
          show World.ownsRow _ _ _ _ _ _ _
          rw [HT.out, glC_snoc]
          exact own_set HO6.out _ _ (by show A < _; omega)
         have BT7 : But A E (w6.setCell ⟨A, 1, none⟩ (.slice a6 (k + 1) c6)) := BT6.setCell 1 _
         have e07 : (w6.setCell ⟨A, 1, none⟩ (.slice a6 (k + 1) c6)).cell? ⟨wr.heap.size, 0, none⟩ = some _ := (World.cell?_setCell_other _ _ _ _ (fun h => by injection h; omega)).trans e06
         have e17 : (w6.setCell ⟨A, 1, none⟩ (.slice a6 (k + 1) c6)).cell? ⟨wr.heap.size, 1, none⟩ = some _ := (World.cell?_setCell_other _ _ _ _ (fun h => by injection h; omega)).trans e16
         have e27 : (w6.setCell ⟨A, 1, none⟩ (.slice a6 (k + 1) c6)).cell? ⟨wr.heap.size, 2, none⟩ = some _ := (World.cell?_setCell_other _ _ _ _ (fun h => by injection h; omega)).trans e26
         have e37 : (w6.setCell ⟨A, 1, none⟩ (.slice a6 (k + 1) c6)).cell? ⟨wr.heap.size, 3, none⟩ = some _ := (World.cell?_setCell_other _ _ _ _ (fun h => by injection h; omega)).trans e36
         clear hHeld
         refine hK.out _ _ ?_ (fun hHeld => ?_)
         · exact ⟨e07, e17, e27, e37⟩
         clear hK K
         try simp only [Act.put, qA, qB, qC]
         generalize (w6.setCell ⟨A, 1, none⟩ (.slice a6 (k + 1) c6)) = w7 at *
         refine wpAnyH_done (by kernel_rfl) ?_ _
         go_wp2
         go_roundw
         case rel => exact ⟨k + 1, .slice a6 (k + 1) c6, by omega, by go_num, HA7, HF7, HO7, BT7⟩
         case measure => simp [intOf]; omega
   · obtain rfl : k = ls.length := by omega
     have Z7 : Hid (BlkAt wr (w.heap.size + 2) [.string ⟨#[]⟩, .slice none 0 0, .string ⟨#[]⟩]) := fun j q hq => (BTr.cell (p := ⟨w.heap.size + 2, j, none⟩) (show w.heap.size + 2 < E.heap.size by omega) (show w.heap.size + 2 ≠ A by omega)).trans (HZR.out j q hq)
     have F7 : Hid (OpnAt wr (w.heap.size + 2)) := fun j => (World.frozen?_of_block (a := ⟨w.heap.size + 2, j, none⟩) (BTr.block (w.heap.size + 2) (by omega) (by omega))).trans (HFR.out j)
     have hB7 : Below w.heap.size w wr := hBE.trans (BTr.below (by omega) (by omega))
     go_wp2_with (first | refine wpList_load_blk rfl 67 (.tmp 9) rfl A rfl _ _ HAr.out Tryz.underlying67 rfl (by kernel_rfl) ?_ | refine wpList_store_blk rfl 67 (.tmp 8) (.tmp 37) rfl (w.heap.size + 2) 0 rfl _ rfl (blk_some Z7.out rfl) F7.out (by simp [Value.oneCell']) (by kernel_rfl) rfl ?_)
     refine st_over (old := [.string ⟨#[]⟩, .slice none 0 0, .string ⟨#[]⟩]) (N := w.heap.size + 2) rfl Z7.out F7.out (Nat.le_refl _) ?_
     intro E' hbE' ZE' FE' hsE' hoE'
     refine bodyPost_ret (v := .agg ([.string (keyR m), .slice av ls.length cv, .string (sumS (ofL (formR c t.data.toList)) W)] : List Value).toArray) (results_blk (P := Tryz.prog) (ty := 67) rfl _ E' (w.heap.size + 2) [.string (keyR m), .slice av ls.length cv, .string (sumS (ofL (formR c t.data.toList)) W)] _ rfl ZE' Tryz.underlying67 rfl (by kernel_rfl)) rfl ⟨⟨_, rfl, ?_⟩, hB7.trans (hbE'.mono (by omega))⟩
     have hO7 := HOr.out
     rw [List.take_length] at hO7
     exact own_low (own_other hO7 hsE' (fun q hq hne => hoE' q hq hne) (by omega)) (by omega)
 have hV : Below V.heap.size V V := Below.refl _ _
 have hVdrew : Below V.heap.size V V.drew := (Below.refl _ _).drew
 have p0Vd := (ZA.out.below hVdrew (by omega)) 0 _ rfl
 have p1Vd := (ZA.out.below hVdrew (by omega)) 1 _ rfl
 have p2Vd := (ZA.out.below hVdrew (by omega)) 2 _ rfl
 have q0Vd := (ZB.out.below hVdrew (by omega)) 0 _ rfl
 have q1Vd := (ZB.out.below hVdrew (by omega)) 1 _ rfl
 have pHVd := (hVdrew.cell (p := ⟨H, 0, none⟩) (show H < V.heap.size by omega)).trans hV0
 refine wp_region_held_drew (S := (fun u => u.cell? ⟨w.heap.size, 0, none⟩ = some (.string m.nm) ∧ u.cell? ⟨w.heap.size, 1, none⟩ = some (.string m.tl) ∧ u.cell? ⟨w.heap.size, 2, none⟩ = some (.string m.ar) ∧ u.cell? ⟨w.heap.size + 1, 0, none⟩ = some (.int .i64 c) ∧ u.cell? ⟨w.heap.size + 1, 1, none⟩ = some (.string t) ∧ u.cell? ⟨H, 0, none⟩ = some (.int .i64 W))) (by kernel_rfl) ?_ (fun hHeld => ?_)
 · exact ⟨p0Vd, p1Vd, p2Vd, q0Vd, q1Vd, pHVd⟩
 refine wpAnyH_take (i := 0) (oi := ⟨some 12, .load 41 (.tmp 5), 41, "l5_store.go:318", #[], none⟩) (v := ?_) rfl (by kernel_rfl) (by kernel_rfl) (by kernel_rfl) (fun _ _ _ h => h) (Or.inl ⟨by rfl, ?_⟩) (by assumption) ?_
 rotate_left
 · intro wq hSw
   (try dsimp only at hSw)
   go_simp
   try with_reducible rfl
 try simp only [Act.put, qA, qB, qC]
 refine wpAnyH_take (i := 2) (oi := ⟨some 14, .load 45 (.tmp 7), 45, "l5_store.go:318", #[], none⟩) (v := ?_) rfl (by kernel_rfl) (by kernel_rfl) (by kernel_rfl) (fun _ _ _ h => h) (Or.inl ⟨by rfl, ?_⟩) (by assumption) ?_
 rotate_left
 · intro wq hSw
   (try dsimp only at hSw)
   go_simp
   try with_reducible rfl
 try simp only [Act.put, qA, qB, qC]
 refine wpAnyH_take (i := 4) (oi := ⟨some 16, .move (.tmp 0), 73, "l5_store.go:318", #[], none⟩) (v := ?_) rfl (by kernel_rfl) (by kernel_rfl) (by kernel_rfl) (fun _ _ _ h => h) (Or.inl ⟨by rfl, ?_⟩) (by assumption) ?_
 rotate_left
 · intro wq hSw
   (try dsimp only at hSw)
   go_simp
   try with_reducible rfl
 try simp only [Act.put, qA, qB, qC]
 refine wpAnyH_take (i := 5) (oi := ⟨some 17, .nilCheck (.tmp 16), 0, "l5_store.go:318", #[⟨4, .data⟩], none⟩) (v := ?_) rfl (by kernel_rfl) (by kernel_rfl) (by kernel_rfl) (fun _ _ _ h => h) (Or.inl ⟨by rfl, ?_⟩) (by assumption) ?_
 rotate_left
 · intro wq hSw
   (try dsimp only at hSw)
   go_simp
   try with_reducible rfl
 try simp only [Act.put, qA, qB, qC]
 refine wpAnyH_take (i := 6) (oi := ⟨some 18, .fieldAddr 105 (.tmp 17) 0, 0, "l5_store.go:318", #[⟨5, .data⟩], none⟩) (v := ?_) rfl (by kernel_rfl) (by kernel_rfl) (by kernel_rfl) (fun _ _ _ h => h) (Or.inl ⟨by rfl, ?_⟩) (by assumption) ?_
 rotate_left
 · intro wq hSw
   (try dsimp only at hSw)
   go_simp
   try with_reducible rfl
 try simp only [Act.put, qA, qB, qC]
 refine wpAnyH_take (i := 7) (oi := ⟨some 19, .load 3 (.tmp 18), 3, "l5_store.go:318", #[⟨6, .data⟩], none⟩) (v := ?_) rfl (by kernel_rfl) (by kernel_rfl) (by kernel_rfl) (fun _ _ _ h => h) (Or.inl ⟨by rfl, ?_⟩) (by assumption) ?_
 rotate_left
 · intro wq hSw
   (try dsimp only at hSw)
   go_simp
   try with_reducible rfl
 try simp only [Act.put, qA, qB, qC]
 refine wpAnyH_ready (rs := [1, 10]) (by kernel_rfl) (by simp) ?_
 refine AllReadyH.cons (o := ⟨some 13, .call ⟨.value (.func 89), #[.tmp 12], #[41]⟩, 9, "l5_store.go:318", #[⟨0, .data⟩], none⟩) rfl (fun K hK => ?_) (AllReadyH.cons (o := ⟨some 9, .alloc 67, 0, "l5_store.go:318", #[], none⟩) rfl (fun K hK => ?_) AllReadyH.nil)
 · go_simp
   refine (c89 m V.drew hm).mono ?_
   rintro e uB ⟨rfl, hbn⟩
   have huB := hVdrew.trans (hbn.mono hVdrew.size)
   have zuB := hbn.size
   have p0uB := (ZA.out.below huB (by omega)) 0 _ rfl
   have p1uB := (ZA.out.below huB (by omega)) 1 _ rfl
   have p2uB := (ZA.out.below huB (by omega)) 2 _ rfl
   have q0uB := (ZB.out.below huB (by omega)) 0 _ rfl
   have q1uB := (ZB.out.below huB (by omega)) 1 _ rfl
   have pHuB := (huB.cell (p := ⟨H, 0, none⟩) (show H < V.heap.size by omega)).trans hV0
   clear hbn
   go_simp
   clear hHeld
   refine hK.out _ _ ?_ (fun hHeld => ?_)
   · exact ⟨p0uB, p1uB, p2uB, q0uB, q1uB, pHuB⟩
   clear hK K
   try simp only [Act.put, qA, qB, qC]
   refine wpAnyH_ready (rs := [3, 10]) (by kernel_rfl) (by simp) ?_
   refine AllReadyH.cons (o := ⟨some 15, .call ⟨.value (.func 88), #[.tmp 14], #[45]⟩, 9, "l5_store.go:318", #[⟨2, .data⟩, ⟨1, .chain⟩], none⟩) rfl (fun K hK => ?_) (AllReadyH.cons (o := ⟨some 9, .alloc 67, 0, "l5_store.go:318", #[], none⟩) rfl (fun K hK => ?_) AllReadyH.nil)
   · go_simp
     refine (c88 c t uB ht).mono ?_
     rintro e uC ⟨rfl, hbn⟩
     have huC := huB.trans (hbn.mono huB.size)
     have zuC := hbn.size
     have p0uC := (ZA.out.below huC (by omega)) 0 _ rfl
     have p1uC := (ZA.out.below huC (by omega)) 1 _ rfl
     have p2uC := (ZA.out.below huC (by omega)) 2 _ rfl
     have q0uC := (ZB.out.below huC (by omega)) 0 _ rfl
     have q1uC := (ZB.out.below huC (by omega)) 1 _ rfl
     have pHuC := (huC.cell (p := ⟨H, 0, none⟩) (show H < V.heap.size by omega)).trans hV0
     clear hbn
     go_simp
     clear hHeld
     refine hK.out _ _ ?_ (fun hHeld => ?_)
     · exact ⟨p0uC, p1uC, p2uC, q0uC, q1uC, pHuC⟩
     clear hK K
     try simp only [Act.put, qA, qB, qC]
     refine wpAnyH_ready (rs := [8, 10]) (by kernel_rfl) (by simp) ?_
     refine AllReadyH.cons (o := ⟨some 20, .call ⟨.value (.func 58), #[.tmp 15, .tmp 19], #[9, 3]⟩, 9, "l5_store.go:318", #[⟨3, .data⟩, ⟨7, .data⟩, ⟨3, .chain⟩], none⟩) rfl (fun K hK => ?_) (AllReadyH.cons (o := ⟨some 9, .alloc 67, 0, "l5_store.go:318", #[], none⟩) rfl (fun K hK => ?_) AllReadyH.nil)
     · go_simp
       refine (c58 (ofL (formR c t.data.toList)) W uC hf).mono ?_
       rintro e uD ⟨rfl, hbn⟩
       have huD := huC.trans (hbn.mono huC.size)
       have zuD := hbn.size
       have p0uD := (ZA.out.below huD (by omega)) 0 _ rfl
       have p1uD := (ZA.out.below huD (by omega)) 1 _ rfl
       have p2uD := (ZA.out.below huD (by omega)) 2 _ rfl
       have q0uD := (ZB.out.below huD (by omega)) 0 _ rfl
       have q1uD := (ZB.out.below huD (by omega)) 1 _ rfl
       have pHuD := (huD.cell (p := ⟨H, 0, none⟩) (show H < V.heap.size by omega)).trans hV0
       clear hbn
       go_simp
       clear hHeld
       refine hK.out _ _ ?_ (fun hHeld => ?_)
       · exact ⟨p0uD, p1uD, p2uD, q0uD, q1uD, pHuD⟩
       clear hK K
       try simp only [Act.put, qA, qB, qC]
       refine wpAnyH_take (i := 9) (oi := ⟨some 21, .build 67 #[(0, .tmp 13), (2, .tmp 20)], 67, "l5_store.go:318", #[⟨1, .data⟩, ⟨8, .data⟩], none⟩) (v := ?_) rfl (by kernel_rfl) (by kernel_rfl) (by kernel_rfl) (fun _ _ _ h => h) (Or.inl ⟨by rfl, ?_⟩) (by assumption) ?_
       rotate_left
       · intro wq hSw
         (try dsimp only at hSw)
         go_simp
         try with_reducible rfl
       try simp only [Act.put, qA, qB, qC]
       refine wpAnyH_ready (rs := [10]) (by kernel_rfl) (by simp) ?_
       refine AllReadyH.cons (o := ⟨some 9, .alloc 67, 0, "l5_store.go:318", #[], none⟩) rfl (fun K hK => ?_) AllReadyH.nil
       go_simp
       have huE : Below V.heap.size V (uD.alloc (.cells #[.string ⟨#[]⟩, .slice none 0 0, .string ⟨#[]⟩] 67)) := huD.alloc huD.size _
       have HAuE := hidI (blk_new uD [.string ⟨#[]⟩, .slice none 0 0, .string ⟨#[]⟩] 67)
       have HOuE := hidI (opn_new uD ([.string ⟨#[]⟩, .slice none 0 0, .string ⟨#[]⟩] : List Value).toArray 67)
       have zuE : (uD.alloc (.cells #[.string ⟨#[]⟩, .slice none 0 0, .string ⟨#[]⟩] 67)).heap.size = uD.heap.size + 1 := by simp
       have luE := huD.size
       have p0uE := (ZA.out.below huE (by omega)) 0 _ rfl
       have p1uE := (ZA.out.below huE (by omega)) 1 _ rfl
       have p2uE := (ZA.out.below huE (by omega)) 2 _ rfl
       have q0uE := (ZB.out.below huE (by omega)) 0 _ rfl
       have q1uE := (ZB.out.below huE (by omega)) 1 _ rfl
       have pHuE := (huE.cell (p := ⟨H, 0, none⟩) (show H < V.heap.size by omega)).trans hV0
       clear hHeld
       refine hK.out _ _ ?_ (fun hHeld => ?_)
       · exact ⟨p0uE, p1uE, p2uE, q0uE, q1uE, pHuE⟩
       clear hK K
       try simp only [Act.put, qA, qB, qC]
       generalize (uD.alloc (.cells #[.string ⟨#[]⟩, .slice none 0 0, .string ⟨#[]⟩] 67)) = uE at *
       refine wpAnyH_ready (rs := [11]) (by kernel_rfl) (by simp) ?_
       refine AllReadyH.cons (o := ⟨none, .store 67 (.tmp 9) (.tmp 21), 0, "l5_store.go:318", #[⟨10, .data⟩, ⟨9, .data⟩, ⟨8, .chain⟩, ⟨0, .phase⟩, ⟨1, .phase⟩, ⟨2, .phase⟩, ⟨3, .phase⟩, ⟨4, .phase⟩, ⟨5, .phase⟩, ⟨6, .phase⟩, ⟨7, .phase⟩, ⟨8, .phase⟩, ⟨9, .phase⟩, ⟨10, .phase⟩], none⟩) rfl (fun K hK => ?_) AllReadyH.nil
       refine step_store_blk rfl 67 (.tmp 9) (.tmp 21) rfl uD.heap.size 0 rfl [.string (keyR m), .slice none 0 0, .string (sumS (ofL (formR c t.data.toList)) W)] rfl (blk_some HAuE.out rfl) HOuE.out (by simp [Value.oneCell']) (by kernel_rfl) rfl ?_
       clear hHeld
       refine st_over (old := [.string ⟨#[]⟩, .slice none 0 0, .string ⟨#[]⟩]) (N := V.heap.size) rfl HAuE.out HOuE.out (by omega) ?_
       intro E hbE ZE FE hsE hoE
       have hE := huE.trans hbE
       have p0E := (ZA.out.below hE (by omega)) 0 _ rfl
       have p1E := (ZA.out.below hE (by omega)) 1 _ rfl
       have p2E := (ZA.out.below hE (by omega)) 2 _ rfl
       have q0E := (ZB.out.below hE (by omega)) 0 _ rfl
       have q1E := (ZB.out.below hE (by omega)) 1 _ rfl
       have pHE := (hE.cell (p := ⟨H, 0, none⟩) (show H < V.heap.size by omega)).trans hV0
       refine hK.out _ _ ⟨p0E, p1E, p2E, q0E, q1E, pHE⟩ (fun hHeld => ?_)
       clear hK K
       refine wpAnyH_done (by kernel_rfl) ?_ _
       exact TAIL uD.heap.size E hE (by omega) (by omega) ZE FE
     · go_simp
       have huD : Below V.heap.size V (uC.alloc (.cells #[.string ⟨#[]⟩, .slice none 0 0, .string ⟨#[]⟩] 67)) := huC.alloc huC.size _
       have HAuD := hidI (blk_new uC [.string ⟨#[]⟩, .slice none 0 0, .string ⟨#[]⟩] 67)
       have HOuD := hidI (opn_new uC ([.string ⟨#[]⟩, .slice none 0 0, .string ⟨#[]⟩] : List Value).toArray 67)
       have zuD : (uC.alloc (.cells #[.string ⟨#[]⟩, .slice none 0 0, .string ⟨#[]⟩] 67)).heap.size = uC.heap.size + 1 := by simp
       have luD := huC.size
       have p0uD := (ZA.out.below huD (by omega)) 0 _ rfl
       have p1uD := (ZA.out.below huD (by omega)) 1 _ rfl
       have p2uD := (ZA.out.below huD (by omega)) 2 _ rfl
       have q0uD := (ZB.out.below huD (by omega)) 0 _ rfl
       have q1uD := (ZB.out.below huD (by omega)) 1 _ rfl
       have pHuD := (huD.cell (p := ⟨H, 0, none⟩) (show H < V.heap.size by omega)).trans hV0
       clear hHeld
       refine hK.out _ _ ?_ (fun hHeld => ?_)
       · exact ⟨p0uD, p1uD, p2uD, q0uD, q1uD, pHuD⟩
       clear hK K
       try simp only [Act.put, qA, qB, qC]
       generalize (uC.alloc (.cells #[.string ⟨#[]⟩, .slice none 0 0, .string ⟨#[]⟩] 67)) = uD at *
       refine wpAnyH_ready (rs := [8]) (by kernel_rfl) (by simp) ?_
       refine AllReadyH.cons (o := ⟨some 20, .call ⟨.value (.func 58), #[.tmp 15, .tmp 19], #[9, 3]⟩, 9, "l5_store.go:318", #[⟨3, .data⟩, ⟨7, .data⟩, ⟨3, .chain⟩], none⟩) rfl (fun K hK => ?_) AllReadyH.nil
       go_simp
       refine (c58 (ofL (formR c t.data.toList)) W uD hf).mono ?_
       rintro e uE ⟨rfl, hbn⟩
       have huE := huD.trans (hbn.mono huD.size)
       have zuE := hbn.size
       have p0uE := (ZA.out.below huE (by omega)) 0 _ rfl
       have p1uE := (ZA.out.below huE (by omega)) 1 _ rfl
       have p2uE := (ZA.out.below huE (by omega)) 2 _ rfl
       have q0uE := (ZB.out.below huE (by omega)) 0 _ rfl
       have q1uE := (ZB.out.below huE (by omega)) 1 _ rfl
       have pHuE := (huE.cell (p := ⟨H, 0, none⟩) (show H < V.heap.size by omega)).trans hV0
       have HAuE := hidI (HAuD.out.below hbn (by omega))
       have HOuE := hidI (HOuD.out.below hbn (by omega))
       clear HAuD HOuD
       clear hbn
       go_simp
       clear hHeld
       refine hK.out _ _ ?_ (fun hHeld => ?_)
       · exact ⟨p0uE, p1uE, p2uE, q0uE, q1uE, pHuE⟩
       clear hK K
       try simp only [Act.put, qA, qB, qC]
       refine wpAnyH_take (i := 9) (oi := ⟨some 21, .build 67 #[(0, .tmp 13), (2, .tmp 20)], 67, "l5_store.go:318", #[⟨1, .data⟩, ⟨8, .data⟩], none⟩) (v := ?_) rfl (by kernel_rfl) (by kernel_rfl) (by kernel_rfl) (fun _ _ _ h => h) (Or.inl ⟨by rfl, ?_⟩) (by assumption) ?_
       rotate_left
       · intro wq hSw
         (try dsimp only at hSw)
         go_simp
         try with_reducible rfl
       try simp only [Act.put, qA, qB, qC]
       refine wpAnyH_ready (rs := [11]) (by kernel_rfl) (by simp) ?_
       refine AllReadyH.cons (o := ⟨none, .store 67 (.tmp 9) (.tmp 21), 0, "l5_store.go:318", #[⟨10, .data⟩, ⟨9, .data⟩, ⟨8, .chain⟩, ⟨0, .phase⟩, ⟨1, .phase⟩, ⟨2, .phase⟩, ⟨3, .phase⟩, ⟨4, .phase⟩, ⟨5, .phase⟩, ⟨6, .phase⟩, ⟨7, .phase⟩, ⟨8, .phase⟩, ⟨9, .phase⟩, ⟨10, .phase⟩], none⟩) rfl (fun K hK => ?_) AllReadyH.nil
       refine step_store_blk rfl 67 (.tmp 9) (.tmp 21) rfl uC.heap.size 0 rfl [.string (keyR m), .slice none 0 0, .string (sumS (ofL (formR c t.data.toList)) W)] rfl (blk_some HAuE.out rfl) HOuE.out (by simp [Value.oneCell']) (by kernel_rfl) rfl ?_
       clear hHeld
       refine st_over (old := [.string ⟨#[]⟩, .slice none 0 0, .string ⟨#[]⟩]) (N := V.heap.size) rfl HAuE.out HOuE.out (by omega) ?_
       intro E hbE ZE FE hsE hoE
       have hE := huE.trans hbE
       have p0E := (ZA.out.below hE (by omega)) 0 _ rfl
       have p1E := (ZA.out.below hE (by omega)) 1 _ rfl
       have p2E := (ZA.out.below hE (by omega)) 2 _ rfl
       have q0E := (ZB.out.below hE (by omega)) 0 _ rfl
       have q1E := (ZB.out.below hE (by omega)) 1 _ rfl
       have pHE := (hE.cell (p := ⟨H, 0, none⟩) (show H < V.heap.size by omega)).trans hV0
       refine hK.out _ _ ⟨p0E, p1E, p2E, q0E, q1E, pHE⟩ (fun hHeld => ?_)
       clear hK K
       refine wpAnyH_done (by kernel_rfl) ?_ _
       exact TAIL uC.heap.size E hE (by omega) (by omega) ZE FE
   · go_simp
     have huC : Below V.heap.size V (uB.alloc (.cells #[.string ⟨#[]⟩, .slice none 0 0, .string ⟨#[]⟩] 67)) := huB.alloc huB.size _
     have HAuC := hidI (blk_new uB [.string ⟨#[]⟩, .slice none 0 0, .string ⟨#[]⟩] 67)
     have HOuC := hidI (opn_new uB ([.string ⟨#[]⟩, .slice none 0 0, .string ⟨#[]⟩] : List Value).toArray 67)
     have zuC : (uB.alloc (.cells #[.string ⟨#[]⟩, .slice none 0 0, .string ⟨#[]⟩] 67)).heap.size = uB.heap.size + 1 := by simp
     have luC := huB.size
     have p0uC := (ZA.out.below huC (by omega)) 0 _ rfl
     have p1uC := (ZA.out.below huC (by omega)) 1 _ rfl
     have p2uC := (ZA.out.below huC (by omega)) 2 _ rfl
     have q0uC := (ZB.out.below huC (by omega)) 0 _ rfl
     have q1uC := (ZB.out.below huC (by omega)) 1 _ rfl
     have pHuC := (huC.cell (p := ⟨H, 0, none⟩) (show H < V.heap.size by omega)).trans hV0
     clear hHeld
     refine hK.out _ _ ?_ (fun hHeld => ?_)
     · exact ⟨p0uC, p1uC, p2uC, q0uC, q1uC, pHuC⟩
     clear hK K
     try simp only [Act.put, qA, qB, qC]
     generalize (uB.alloc (.cells #[.string ⟨#[]⟩, .slice none 0 0, .string ⟨#[]⟩] 67)) = uC at *
     refine wpAnyH_ready (rs := [3]) (by kernel_rfl) (by simp) ?_
     refine AllReadyH.cons (o := ⟨some 15, .call ⟨.value (.func 88), #[.tmp 14], #[45]⟩, 9, "l5_store.go:318", #[⟨2, .data⟩, ⟨1, .chain⟩], none⟩) rfl (fun K hK => ?_) AllReadyH.nil
     go_simp
     refine (c88 c t uC ht).mono ?_
     rintro e uD ⟨rfl, hbn⟩
     have huD := huC.trans (hbn.mono huC.size)
     have zuD := hbn.size
     have p0uD := (ZA.out.below huD (by omega)) 0 _ rfl
     have p1uD := (ZA.out.below huD (by omega)) 1 _ rfl
     have p2uD := (ZA.out.below huD (by omega)) 2 _ rfl
     have q0uD := (ZB.out.below huD (by omega)) 0 _ rfl
     have q1uD := (ZB.out.below huD (by omega)) 1 _ rfl
     have pHuD := (huD.cell (p := ⟨H, 0, none⟩) (show H < V.heap.size by omega)).trans hV0
     have HAuD := hidI (HAuC.out.below hbn (by omega))
     have HOuD := hidI (HOuC.out.below hbn (by omega))
     clear HAuC HOuC
     clear hbn
     go_simp
     clear hHeld
     refine hK.out _ _ ?_ (fun hHeld => ?_)
     · exact ⟨p0uD, p1uD, p2uD, q0uD, q1uD, pHuD⟩
     clear hK K
     try simp only [Act.put, qA, qB, qC]
     refine wpAnyH_ready (rs := [8]) (by kernel_rfl) (by simp) ?_
     refine AllReadyH.cons (o := ⟨some 20, .call ⟨.value (.func 58), #[.tmp 15, .tmp 19], #[9, 3]⟩, 9, "l5_store.go:318", #[⟨3, .data⟩, ⟨7, .data⟩, ⟨3, .chain⟩], none⟩) rfl (fun K hK => ?_) AllReadyH.nil
     go_simp
     refine (c58 (ofL (formR c t.data.toList)) W uD hf).mono ?_
     rintro e uE ⟨rfl, hbn⟩
     have huE := huD.trans (hbn.mono huD.size)
     have zuE := hbn.size
     have p0uE := (ZA.out.below huE (by omega)) 0 _ rfl
     have p1uE := (ZA.out.below huE (by omega)) 1 _ rfl
     have p2uE := (ZA.out.below huE (by omega)) 2 _ rfl
     have q0uE := (ZB.out.below huE (by omega)) 0 _ rfl
     have q1uE := (ZB.out.below huE (by omega)) 1 _ rfl
     have pHuE := (huE.cell (p := ⟨H, 0, none⟩) (show H < V.heap.size by omega)).trans hV0
     have HAuE := hidI (HAuD.out.below hbn (by omega))
     have HOuE := hidI (HOuD.out.below hbn (by omega))
     clear HAuD HOuD
     clear hbn
     go_simp
     clear hHeld
     refine hK.out _ _ ?_ (fun hHeld => ?_)
     · exact ⟨p0uE, p1uE, p2uE, q0uE, q1uE, pHuE⟩
     clear hK K
     try simp only [Act.put, qA, qB, qC]
     refine wpAnyH_take (i := 9) (oi := ⟨some 21, .build 67 #[(0, .tmp 13), (2, .tmp 20)], 67, "l5_store.go:318", #[⟨1, .data⟩, ⟨8, .data⟩], none⟩) (v := ?_) rfl (by kernel_rfl) (by kernel_rfl) (by kernel_rfl) (fun _ _ _ h => h) (Or.inl ⟨by rfl, ?_⟩) (by assumption) ?_
     rotate_left
     · intro wq hSw
       (try dsimp only at hSw)
       go_simp
       try with_reducible rfl
     try simp only [Act.put, qA, qB, qC]
     refine wpAnyH_ready (rs := [11]) (by kernel_rfl) (by simp) ?_
     refine AllReadyH.cons (o := ⟨none, .store 67 (.tmp 9) (.tmp 21), 0, "l5_store.go:318", #[⟨10, .data⟩, ⟨9, .data⟩, ⟨8, .chain⟩, ⟨0, .phase⟩, ⟨1, .phase⟩, ⟨2, .phase⟩, ⟨3, .phase⟩, ⟨4, .phase⟩, ⟨5, .phase⟩, ⟨6, .phase⟩, ⟨7, .phase⟩, ⟨8, .phase⟩, ⟨9, .phase⟩, ⟨10, .phase⟩], none⟩) rfl (fun K hK => ?_) AllReadyH.nil
     refine step_store_blk rfl 67 (.tmp 9) (.tmp 21) rfl uB.heap.size 0 rfl [.string (keyR m), .slice none 0 0, .string (sumS (ofL (formR c t.data.toList)) W)] rfl (blk_some HAuE.out rfl) HOuE.out (by simp [Value.oneCell']) (by kernel_rfl) rfl ?_
     clear hHeld
     refine st_over (old := [.string ⟨#[]⟩, .slice none 0 0, .string ⟨#[]⟩]) (N := V.heap.size) rfl HAuE.out HOuE.out (by omega) ?_
     intro E hbE ZE FE hsE hoE
     have hE := huE.trans hbE
     have p0E := (ZA.out.below hE (by omega)) 0 _ rfl
     have p1E := (ZA.out.below hE (by omega)) 1 _ rfl
     have p2E := (ZA.out.below hE (by omega)) 2 _ rfl
     have q0E := (ZB.out.below hE (by omega)) 0 _ rfl
     have q1E := (ZB.out.below hE (by omega)) 1 _ rfl
     have pHE := (hE.cell (p := ⟨H, 0, none⟩) (show H < V.heap.size by omega)).trans hV0
     refine hK.out _ _ ⟨p0E, p1E, p2E, q0E, q1E, pHE⟩ (fun hHeld => ?_)
     clear hK K
     refine wpAnyH_done (by kernel_rfl) ?_ _
     exact TAIL uB.heap.size E hE (by omega) (by omega) ZE FE
 · go_simp
   have huA : Below V.heap.size V ((V.alloc (.cells #[.string ⟨#[]⟩, .slice none 0 0, .string ⟨#[]⟩] 67)).drew) := (hV.alloc hV.size _).drew
   have HAuA : Hid (BlkAt ((V.alloc (.cells #[.string ⟨#[]⟩, .slice none 0 0, .string ⟨#[]⟩] 67)).drew) (w.heap.size + 3) [.string ⟨#[]⟩, .slice none 0 0, .string ⟨#[]⟩]) := hz ▸ hidI ((blk_new V [.string ⟨#[]⟩, .slice none 0 0, .string ⟨#[]⟩] 67).below (Below.refl (V.heap.size + 1) _).drew (by omega))
   have HOuA : Hid (OpnAt ((V.alloc (.cells #[.string ⟨#[]⟩, .slice none 0 0, .string ⟨#[]⟩] 67)).drew) (w.heap.size + 3)) := hz ▸ hidI ((opn_new V ([.string ⟨#[]⟩, .slice none 0 0, .string ⟨#[]⟩] : List Value).toArray 67).below (Below.refl (V.heap.size + 1) _).drew (by omega))
   have zuA : ((V.alloc (.cells #[.string ⟨#[]⟩, .slice none 0 0, .string ⟨#[]⟩] 67)).drew).heap.size = V.heap.size + 1 := by simp
   have p0uA := (ZA.out.below huA (by omega)) 0 _ rfl
   have p1uA := (ZA.out.below huA (by omega)) 1 _ rfl
   have p2uA := (ZA.out.below huA (by omega)) 2 _ rfl
   have q0uA := (ZB.out.below huA (by omega)) 0 _ rfl
   have q1uA := (ZB.out.below huA (by omega)) 1 _ rfl
   have pHuA := (huA.cell (p := ⟨H, 0, none⟩) (show H < V.heap.size by omega)).trans hV0
   clear hHeld
   refine hK.out _ _ ?_ (fun hHeld => ?_)
   · exact ⟨p0uA, p1uA, p2uA, q0uA, q1uA, pHuA⟩
   clear hK K
   try simp only [Act.put, qA, qB, qC]
   generalize ((V.alloc (.cells #[.string ⟨#[]⟩, .slice none 0 0, .string ⟨#[]⟩] 67)).drew) = uA at *
   refine wpAnyH_ready (rs := [1]) (by kernel_rfl) (by simp) ?_
   refine AllReadyH.cons (o := ⟨some 13, .call ⟨.value (.func 89), #[.tmp 12], #[41]⟩, 9, "l5_store.go:318", #[⟨0, .data⟩], none⟩) rfl (fun K hK => ?_) AllReadyH.nil
   go_simp
   refine (c89 m uA hm).mono ?_
   rintro e uB ⟨rfl, hbn⟩
   have huB := huA.trans (hbn.mono huA.size)
   have zuB := hbn.size
   have p0uB := (ZA.out.below huB (by omega)) 0 _ rfl
   have p1uB := (ZA.out.below huB (by omega)) 1 _ rfl
   have p2uB := (ZA.out.below huB (by omega)) 2 _ rfl
   have q0uB := (ZB.out.below huB (by omega)) 0 _ rfl
   have q1uB := (ZB.out.below huB (by omega)) 1 _ rfl
   have pHuB := (huB.cell (p := ⟨H, 0, none⟩) (show H < V.heap.size by omega)).trans hV0
   have HAuB := hidI (HAuA.out.below hbn (by omega))
   have HOuB := hidI (HOuA.out.below hbn (by omega))
   clear HAuA HOuA
   clear hbn
   go_simp
   clear hHeld
   refine hK.out _ _ ?_ (fun hHeld => ?_)
   · exact ⟨p0uB, p1uB, p2uB, q0uB, q1uB, pHuB⟩
   clear hK K
   try simp only [Act.put, qA, qB, qC]
   refine wpAnyH_ready (rs := [3]) (by kernel_rfl) (by simp) ?_
   refine AllReadyH.cons (o := ⟨some 15, .call ⟨.value (.func 88), #[.tmp 14], #[45]⟩, 9, "l5_store.go:318", #[⟨2, .data⟩, ⟨1, .chain⟩], none⟩) rfl (fun K hK => ?_) AllReadyH.nil
   go_simp
   refine (c88 c t uB ht).mono ?_
   rintro e uC ⟨rfl, hbn⟩
   have huC := huB.trans (hbn.mono huB.size)
   have zuC := hbn.size
   have p0uC := (ZA.out.below huC (by omega)) 0 _ rfl
   have p1uC := (ZA.out.below huC (by omega)) 1 _ rfl
   have p2uC := (ZA.out.below huC (by omega)) 2 _ rfl
   have q0uC := (ZB.out.below huC (by omega)) 0 _ rfl
   have q1uC := (ZB.out.below huC (by omega)) 1 _ rfl
   have pHuC := (huC.cell (p := ⟨H, 0, none⟩) (show H < V.heap.size by omega)).trans hV0
   have HAuC := hidI (HAuB.out.below hbn (by omega))
   have HOuC := hidI (HOuB.out.below hbn (by omega))
   clear HAuB HOuB
   clear hbn
   go_simp
   clear hHeld
   refine hK.out _ _ ?_ (fun hHeld => ?_)
   · exact ⟨p0uC, p1uC, p2uC, q0uC, q1uC, pHuC⟩
   clear hK K
   try simp only [Act.put, qA, qB, qC]
   refine wpAnyH_ready (rs := [8]) (by kernel_rfl) (by simp) ?_
   refine AllReadyH.cons (o := ⟨some 20, .call ⟨.value (.func 58), #[.tmp 15, .tmp 19], #[9, 3]⟩, 9, "l5_store.go:318", #[⟨3, .data⟩, ⟨7, .data⟩, ⟨3, .chain⟩], none⟩) rfl (fun K hK => ?_) AllReadyH.nil
   go_simp
   refine (c58 (ofL (formR c t.data.toList)) W uC hf).mono ?_
   rintro e uD ⟨rfl, hbn⟩
   have huD := huC.trans (hbn.mono huC.size)
   have zuD := hbn.size
   have p0uD := (ZA.out.below huD (by omega)) 0 _ rfl
   have p1uD := (ZA.out.below huD (by omega)) 1 _ rfl
   have p2uD := (ZA.out.below huD (by omega)) 2 _ rfl
   have q0uD := (ZB.out.below huD (by omega)) 0 _ rfl
   have q1uD := (ZB.out.below huD (by omega)) 1 _ rfl
   have pHuD := (huD.cell (p := ⟨H, 0, none⟩) (show H < V.heap.size by omega)).trans hV0
   have HAuD := hidI (HAuC.out.below hbn (by omega))
   have HOuD := hidI (HOuC.out.below hbn (by omega))
   clear HAuC HOuC
   clear hbn
   go_simp
   clear hHeld
   refine hK.out _ _ ?_ (fun hHeld => ?_)
   · exact ⟨p0uD, p1uD, p2uD, q0uD, q1uD, pHuD⟩
   clear hK K
   try simp only [Act.put, qA, qB, qC]
   refine wpAnyH_take (i := 9) (oi := ⟨some 21, .build 67 #[(0, .tmp 13), (2, .tmp 20)], 67, "l5_store.go:318", #[⟨1, .data⟩, ⟨8, .data⟩], none⟩) (v := ?_) rfl (by kernel_rfl) (by kernel_rfl) (by kernel_rfl) (fun _ _ _ h => h) (Or.inl ⟨by rfl, ?_⟩) (by assumption) ?_
   rotate_left
   · intro wq hSw
     (try dsimp only at hSw)
     go_simp
     try with_reducible rfl
   try simp only [Act.put, qA, qB, qC]
   refine wpAnyH_ready (rs := [11]) (by kernel_rfl) (by simp) ?_
   refine AllReadyH.cons (o := ⟨none, .store 67 (.tmp 9) (.tmp 21), 0, "l5_store.go:318", #[⟨10, .data⟩, ⟨9, .data⟩, ⟨8, .chain⟩, ⟨0, .phase⟩, ⟨1, .phase⟩, ⟨2, .phase⟩, ⟨3, .phase⟩, ⟨4, .phase⟩, ⟨5, .phase⟩, ⟨6, .phase⟩, ⟨7, .phase⟩, ⟨8, .phase⟩, ⟨9, .phase⟩, ⟨10, .phase⟩], none⟩) rfl (fun K hK => ?_) AllReadyH.nil
   refine step_store_blk rfl 67 (.tmp 9) (.tmp 21) rfl (w.heap.size + 3) 0 rfl [.string (keyR m), .slice none 0 0, .string (sumS (ofL (formR c t.data.toList)) W)] rfl (blk_some HAuD.out rfl) HOuD.out (by simp [Value.oneCell']) (by kernel_rfl) rfl ?_
   clear hHeld
   refine st_over (old := [.string ⟨#[]⟩, .slice none 0 0, .string ⟨#[]⟩]) (N := V.heap.size) rfl HAuD.out HOuD.out (by omega) ?_
   intro E hbE ZE FE hsE hoE
   have hE := huD.trans hbE
   have p0E := (ZA.out.below hE (by omega)) 0 _ rfl
   have p1E := (ZA.out.below hE (by omega)) 1 _ rfl
   have p2E := (ZA.out.below hE (by omega)) 2 _ rfl
   have q0E := (ZB.out.below hE (by omega)) 0 _ rfl
   have q1E := (ZB.out.below hE (by omega)) 1 _ rfl
   have pHE := (hE.cell (p := ⟨H, 0, none⟩) (show H < V.heap.size by omega)).trans hV0
   refine hK.out _ _ ⟨p0E, p1E, p2E, q0E, q1E, pHE⟩ (fun hHeld => ?_)
   clear hK K
   refine wpAnyH_done (by kernel_rfl) ?_ _
   exact TAIL (w.heap.size + 3) E hE (by omega) (by omega) ZE FE
end Go.Proofs.YtkhlekmicpmpkaaGreatDoor
