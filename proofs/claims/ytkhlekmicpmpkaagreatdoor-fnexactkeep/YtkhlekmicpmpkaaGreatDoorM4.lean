import Derived.Test.YtkhlekmicpmpkaaGreatDoorM3
namespace Go.Proofs.YtkhlekmicpmpkaaGreatDoor
open Go.RowKit Go.Maps
set_option maxRecDepth 100000
set_option linter.unusedVariables false
theorem plc_get {rs : List R3} {key : ByteArray} {k : Nat} (h : k < (plc rs key).length) : ∃ p : Nat, (plc rs key).getD k 0 = (p : Int) ∧ p < rs.length ∧ (rs.getD p r3z).key = key := by
 unfold plc at h ⊢
 rw [List.length_map] at h
 have hm := List.getElem_mem h
 refine ⟨_, ?_, List.mem_range.1 (List.mem_filter.1 hm).1, by simpa using (List.mem_filter.1 hm).2⟩
 rw [List.getD_eq_getElem?_getD, List.getElem?_map, List.getElem?_eq_getElem h]
 rfl
theorem plc_has {rs : List R3} {key : ByteArray} {p : Nat} (hp : p < rs.length) (hk : (rs.getD p r3z).key = key) : ∃ k, k < (plc rs key).length ∧ (plc rs key).getD k 0 = (p : Int) := by
 unfold plc
 have hm : p ∈ (List.range rs.length).filter fun i => decide ((rs.getD i r3z).key = key) := List.mem_filter.2 ⟨List.mem_range.2 hp, by simpa using hk⟩
 obtain ⟨k, hk1, hk2⟩ := List.getElem_of_mem hm
 refine ⟨k, by rw [List.length_map]; exact hk1, ?_⟩
 rw [List.getD_eq_getElem?_getD, List.getElem?_map, List.getElem?_eq_getElem hk1, hk2]
 rfl
theorem getD_memR {rs : List R3} {p : Nat} (hp : p < rs.length) : rs.getD p r3z ∈ rs := by
 have : rs.getD p r3z = rs[p] := by simp [List.getD, List.getElem?_eq_getElem hp]
 rw [this]
 exact List.getElem_mem hp
theorem mem_getDR {rs : List R3} {x : R3} (h : x ∈ rs) : ∃ p, p < rs.length ∧ rs.getD p r3z = x := by
 obtain ⟨p, hp, e⟩ := List.getElem_of_mem h
 exact ⟨p, hp, by simp [List.getD, List.getElem?_eq_getElem hp, e]⟩
theorem ints_cells {w : World} {B : Nat} {va : Option Addr} {vc n : Nat} {zs : List Int} (h : w.ownsInts B 3 .i64 (.slice va n vc) zs) : n = zs.length ∧ (n = 0 ∨ ∃ g, va = some ⟨g, 0, none⟩ ∧ g < w.heap.size ∧ ∀ k, k < n → w.cell? ⟨g, k, none⟩ = some (.int .i64 (zs.getD k 0))) := by
 have hrow := h.1
 rcases h.1.2 with ⟨hv, h0⟩ | ⟨g, cap, cur, hv, hg, hh, _⟩
 · simp at hv
   exact ⟨by omega, .inl (by omega)⟩
 · simp only [Value.slice.injEq] at hv
   obtain ⟨rfl, rfl, rfl⟩ := hv
   refine ⟨rfl, .inr ⟨g, rfl, (Array.getElem?_eq_some_iff.1 hh).1, fun k hk => ?_⟩⟩
   rw [hrow.cellAt k (by omega)]
   simp [List.getD, List.getElem?_eq_getElem hk]
set_option maxHeartbeats 4000000 in
theorem c65 (B H bT bR bP : Nat) (W : Int) (l : List (ByteArray × Value)) (rs : List R3) (rv : List Value) (x : R3) (a : Option Addr) (c : Nat) (w : World) (hSh : Sh B H bT bR bP W l rs rv w) (hx : GlsAt w a x.gs) (hn : rs.length ≤ 1000) (hk : x.key.size ≤ 1048700) (hg : x.gs.length ≤ 1048576) (hgs : ∀ i, (rs.getD i r3z).gs.length ≤ 1048576) :
 Calls Tryz.prog 65 #[.pointer (some ⟨H, 0, none⟩), .agg #[.string x.key, .slice a x.gs.length c, .string x.out]] w fun e w' => Rb (x ∈ rs) e ∧ Below w.heap.size w w' := by
 obtain ⟨pl, hC, hR⟩ := hSh
 have hrl := hR.len
 have hHlt := hC.lt
 obtain ⟨v, hv⟩ : ∃ v, (getK pl x.key).getD (.slice none 0 0) = v := ⟨_, rfl⟩
 have hO := ints_at hR hv (Below.refl _ _)
 obtain ⟨va, vc, hvf⟩ := row_form hO.1
 rw [hvf] at hO hv
 obtain ⟨_, hcs⟩ := ints_cells hO
 have HCS := hidI hcs
 have hln : (plc rs x.key).length ≤ 1000 := Nat.le_trans (plc_len _ _) hn
 obtain ⟨es, ck, hpw, hpF, hps, hpD⟩ := hC.pc
 obtain ⟨es1, ck1, hrw, hrF, hrs, hrD⟩ := hC.rc
 have hbP : bP < w.heap.size := (Array.getElem?_eq_some_iff.1 hpw).1
 have hbR : bR < w.heap.size := (Array.getElem?_eq_some_iff.1 hrw).1
 have hkm : x.key.size ≤ maxLen := by unfold maxLen; omega
 have HLK : Hid (∀ u : World, u.heap[bP]? = some (.map es ck) → (Instr.lookup 103 (.map (some bP)) (.string x.key) false).run Tryz.prog u = .ok (.slice va (plc rs x.key).length vc) u) := fun u hu => by
  rw [← hv]
  exact look_S (n := pl.length) ⟨es, ck, hu, hpF, hps, hpD⟩ Tryz.underlying103 (by kernel_rfl) hkm
 have HLA : Hid (∀ (u : World) (p : Nat), p < rs.length → u.heap[bR]? = some (.map es1 ck1) → (Instr.lookup 102 (.map (some bR)) (.int .i64 p) false).run Tryz.prog u = .ok (rv.getD p undef) u) := fun u p hp hu =>
  look_I (n := rv.length) (z := .agg #[.string ⟨#[]⟩, .slice none 0 0, .string ⟨#[]⟩]) ⟨es1, ck1, hu, hrF, hrs, hrD⟩ Tryz.underlying102 (by kernel_rfl) (by omega) (by omega)
 have HRC := hidI hR.recs
 have hB0 : Below w.heap.size w (w.alloc (.cells #[.string x.key, .slice a x.gs.length c, .string x.out] 67)) := (Below.refl _ _).alloc (Nat.le_refl _) _
 have sz0 : (w.alloc (.cells #[.string x.key, .slice a x.gs.length c, .string x.out] 67)).heap.size = w.heap.size + 1 := by simp
 have hp0 : (w.alloc (.cells #[.string x.key, .slice a x.gs.length c, .string x.out] 67)).heap[bP]? = some (.map es ck) := (hB0.block bP hbP).trans hpw
 have hr0 : (w.alloc (.cells #[.string x.key, .slice a x.gs.length c, .string x.out] 67)).heap[bR]? = some (.map es1 ck1) := (hB0.block bR hbR).trans hrw
 have E0 : Hid (BlkAt (w.alloc (.cells #[.string x.key, .slice a x.gs.length c, .string x.out] 67)) w.heap.size [.string x.key, .slice a x.gs.length c, .string x.out]) := hidI (blk_new w [.string x.key, .slice a x.gs.length c, .string x.out] 67)
 have f2 := (hC.below hB0).blk 2 _ rfl
 have f3 := (hC.below hB0).blk 3 _ rfl
 have e0 := E0.out 0 _ rfl
 have e1 := E0.out 1 _ rfl
 have e2 := E0.out 2 _ rfl
 have HX := hidI (gls_below hx hB0)
 have HW := hidI hB0
 clear hC hR hx hv hvf hO hpw hpF hps hpD hrw hrF hrs hrD hcs hrl E0
 go_enter Tryz.func65, Tryz.ntmps65
 go_wp2_with fail
 generalize (w.alloc (.cells #[.string x.key, .slice a x.gs.length c, .string x.out] 67)) = U0 at *
 refine wp_region_held_drew (S := (fun u => u.cell? ⟨H, 3, none⟩ = some (.map (some bP)) ∧ u.cell? ⟨w.heap.size, 0, none⟩ = some (.string x.key) ∧ u.heap[bP]? = some (.map es ck))) (by kernel_rfl) ?_ (fun hHeld => ?_)
 · exact ⟨f3, e0, hp0⟩
 refine wpAnyH_take (i := 0) (oi := ⟨some 7, .move (.tmp 0), 73, "l5_store.go:249", #[], none⟩) (v := ?_) rfl (by kernel_rfl) (by kernel_rfl) (by kernel_rfl) (fun _ _ _ h => h) (Or.inl ⟨by rfl, ?_⟩) (by assumption) ?_
 rotate_left
 · intro wq hSw
   (try dsimp only at hSw)
   go_simp
   try with_reducible rfl
 try simp only [Act.put, qA, qB, qC]
 refine wpAnyH_take (i := 1) (oi := ⟨some 8, .nilCheck (.tmp 7), 0, "l5_store.go:249", #[⟨0, .data⟩], none⟩) (v := ?_) rfl (by kernel_rfl) (by kernel_rfl) (by kernel_rfl) (fun _ _ _ h => h) (Or.inl ⟨by rfl, ?_⟩) (by assumption) ?_
 rotate_left
 · intro wq hSw
   (try dsimp only at hSw)
   go_simp
   try with_reducible rfl
 try simp only [Act.put, qA, qB, qC]
 refine wpAnyH_take (i := 2) (oi := ⟨some 9, .fieldAddr 105 (.tmp 8) 3, 0, "l5_store.go:249", #[⟨1, .data⟩], none⟩) (v := ?_) rfl (by kernel_rfl) (by kernel_rfl) (by kernel_rfl) (fun _ _ _ h => h) (Or.inl ⟨by rfl, ?_⟩) (by assumption) ?_
 rotate_left
 · intro wq hSw
   (try dsimp only at hSw)
   go_simp
   try with_reducible rfl
 try simp only [Act.put, qA, qB, qC]
 refine wpAnyH_take (i := 3) (oi := ⟨some 10, .load 103 (.tmp 9), 103, "l5_store.go:249", #[⟨2, .data⟩], none⟩) (v := ?_) rfl (by kernel_rfl) (by kernel_rfl) (by kernel_rfl) (fun _ _ _ h => h) (Or.inl ⟨by rfl, ?_⟩) (by assumption) ?_
 rotate_left
 · intro wq hSw
   (try dsimp only at hSw)
   go_simp
   try with_reducible rfl
 try simp only [Act.put, qA, qB, qC]
 refine wpAnyH_take (i := 4) (oi := ⟨some 11, .fieldAddr 67 (.tmp 3) 0, 0, "l5_store.go:249", #[], none⟩) (v := ?_) rfl (by kernel_rfl) (by kernel_rfl) (by kernel_rfl) (fun _ _ _ h => h) (Or.inl ⟨by rfl, ?_⟩) (by assumption) ?_
 rotate_left
 · intro wq hSw
   (try dsimp only at hSw)
   go_simp
   try with_reducible rfl
 try simp only [Act.put, qA, qB, qC]
 refine wpAnyH_take (i := 5) (oi := ⟨some 12, .load 9 (.tmp 11), 9, "l5_store.go:249", #[⟨4, .data⟩], none⟩) (v := ?_) rfl (by kernel_rfl) (by kernel_rfl) (by kernel_rfl) (fun _ _ _ h => h) (Or.inl ⟨by rfl, ?_⟩) (by assumption) ?_
 rotate_left
 · intro wq hSw
   (try dsimp only at hSw)
   go_simp
   try with_reducible rfl
 try simp only [Act.put, qA, qB, qC]
 refine wpAnyH_take (i := 6) (oi := ⟨some 13, .lookup 103 (.tmp 10) (.tmp 12) false, 139, "l5_store.go:249", #[⟨3, .data⟩, ⟨5, .data⟩], none⟩) (v := ?_) rfl (by kernel_rfl) (by kernel_rfl) (by kernel_rfl) (fun _ _ _ h => h) (Or.inl ⟨by rfl, ?_⟩) (by assumption) ?_
 rotate_left
 · intro wq hSw
   (try dsimp only at hSw)
   have hq := HLK.out wq hSw.2.2
   go_simp
   try with_reducible rfl
 try simp only [Act.put, qA, qB, qC]
 refine wpAnyH_take (i := 7) (oi := ⟨some 14, .call ⟨.builtin .len, #[.tmp 13], #[139]⟩, 3, "l5_store.go:249", #[⟨6, .data⟩], none⟩) (v := ?_) rfl (by kernel_rfl) (by kernel_rfl) (by kernel_rfl) (fun _ _ _ h => h) (Or.inl ⟨by rfl, ?_⟩) (by assumption) ?_
 rotate_left
 · intro wq hSw
   (try dsimp only at hSw)
   go_simp
   try with_reducible rfl
 try simp only [Act.put, qA, qB, qC]
 refine wpAnyH_take (i := 8) (oi := ⟨some 15, .move (.const (.int .i64 0)), 3, "l5_store.go:249", #[], none⟩) (v := ?_) rfl (by kernel_rfl) (by kernel_rfl) (by kernel_rfl) (fun _ _ _ h => h) (Or.inl ⟨by rfl, ?_⟩) (by assumption) ?_
 rotate_left
 · intro wq hSw
   (try dsimp only at hSw)
   go_simp
   try with_reducible rfl
 try simp only [Act.put, qA, qB, qC]
 refine wpAnyH_done (by kernel_rfl) ?_ _
 go_wp2_with fail
 go_loopw [15] (fun i wr => ∃ (k : Nat), k ≤ (plc rs x.key).length ∧ i = .int .i64 k ∧ Hid (∀ j, j < k → rs.getD ((plc rs x.key).getD j 0).toNat r3z ≠ x) ∧ Below U0.heap.size U0 wr) (fun i _ => (plc rs x.key).length - (Go.RowKit.intOf i).toNat)
 case atStart => exact ⟨0, Nat.zero_le _, rfl, fun j hj => absurd hj (Nat.not_lt_zero _), (Below.refl _ _).drew⟩
 case round =>
  obtain ⟨k, hk, rfl, HJ, hbr⟩ := hrel
  by_cases hlt : k < (plc rs x.key).length
  · rcases HCS.out with h0 | ⟨g, hva, hgw, hcell⟩
    · omega
    subst hva
    obtain ⟨p, hzp, hp, hkp⟩ := plc_get hlt
    have ck0 := (hbr.cell (p := ⟨g, k, none⟩) (show g < U0.heap.size by omega)).trans ((hB0.cell (p := ⟨g, k, none⟩) hgw).trans (hcell k hlt))
    rw [hzp] at ck0
    obtain ⟨a2, c2, hv2, hG2, _⟩ := HRC.out p hp
    have hyl := hgs p
    obtain ⟨y, hy⟩ : ∃ y, rs.getD p r3z = y := ⟨_, rfl⟩
    rw [hy] at hv2 hG2 hyl
    have HY := hidI hy
    clear hy
    have HLR : Hid (∀ u : World, u.heap[bR]? = some (.map es1 ck1) → (Instr.lookup 102 (.map (some bR)) (.int .i64 p) false).run Tryz.prog u = .ok (.agg #[.string y.key, .slice a2 y.gs.length c2, .string y.out]) u) := fun u hu => by
     rw [← hv2]
     exact HLA.out u p hp hu
    have hbd : Below U0.heap.size U0 wr.drew := hbr.drew
    have q2 := (hbd.cell (p := ⟨H, 2, none⟩) (show H < U0.heap.size by omega)).trans f2
    have y0 := (hbd.cell (p := ⟨w.heap.size, 0, none⟩) (show w.heap.size < U0.heap.size by omega)).trans e0
    have y1 := (hbd.cell (p := ⟨w.heap.size, 1, none⟩) (show w.heap.size < U0.heap.size by omega)).trans e1
    have y2 := (hbd.cell (p := ⟨w.heap.size, 2, none⟩) (show w.heap.size < U0.heap.size by omega)).trans e2
    have hpr := (hbd.block bR (show bR < U0.heap.size by omega)).trans hr0
    have G2 := gls_below hG2 (HW.out.trans (hbd.mono (by omega)))
    have GX := gls_below HX.out hbd
    clear hcell hG2 hv2
    go_wp2_with fail
    refine wp_region_held_drew (S := (fun u => u.cell? ⟨H, 2, none⟩ = some (.map (some bR)) ∧ u.cell? ⟨w.heap.size, 0, none⟩ = some (.string x.key) ∧ u.cell? ⟨w.heap.size, 1, none⟩ = some (.slice a x.gs.length c) ∧ u.cell? ⟨w.heap.size, 2, none⟩ = some (.string x.out) ∧ u.heap[bR]? = some (.map es1 ck1))) (by kernel_rfl) ?_ (fun hHeld => ?_)
    · exact ⟨q2, y0, y1, y2, hpr⟩
    refine wpAnyH_take (i := 0) (oi := ⟨some 19, .move (.tmp 0), 73, "l5_store.go:250", #[], none⟩) (v := ?_) rfl (by kernel_rfl) (by kernel_rfl) (by kernel_rfl) (fun _ _ _ h => h) (Or.inl ⟨by rfl, ?_⟩) (by assumption) ?_
    rotate_left
    · intro wq hSw
      (try dsimp only at hSw)
      go_simp
      try with_reducible rfl
    try simp only [Act.put, qA, qB, qC]
    refine wpAnyH_take (i := 1) (oi := ⟨some 20, .nilCheck (.tmp 19), 0, "l5_store.go:250", #[⟨0, .data⟩], none⟩) (v := ?_) rfl (by kernel_rfl) (by kernel_rfl) (by kernel_rfl) (fun _ _ _ h => h) (Or.inl ⟨by rfl, ?_⟩) (by assumption) ?_
    rotate_left
    · intro wq hSw
      (try dsimp only at hSw)
      go_simp
      try with_reducible rfl
    try simp only [Act.put, qA, qB, qC]
    refine wpAnyH_take (i := 2) (oi := ⟨some 21, .fieldAddr 105 (.tmp 20) 2, 0, "l5_store.go:250", #[⟨1, .data⟩], none⟩) (v := ?_) rfl (by kernel_rfl) (by kernel_rfl) (by kernel_rfl) (fun _ _ _ h => h) (Or.inl ⟨by rfl, ?_⟩) (by assumption) ?_
    rotate_left
    · intro wq hSw
      (try dsimp only at hSw)
      go_simp
      try with_reducible rfl
    try simp only [Act.put, qA, qB, qC]
    refine wpAnyH_take (i := 3) (oi := ⟨some 22, .load 102 (.tmp 21), 102, "l5_store.go:250", #[⟨2, .data⟩], none⟩) (v := ?_) rfl (by kernel_rfl) (by kernel_rfl) (by kernel_rfl) (fun _ _ _ h => h) (Or.inl ⟨by rfl, ?_⟩) (by assumption) ?_
    rotate_left
    · intro wq hSw
      (try dsimp only at hSw)
      go_simp
      try with_reducible rfl
    try simp only [Act.put, qA, qB, qC]
    refine wpAnyH_take (i := 4) (oi := ⟨some 23, .move (.tmp 6), 3, "l5_store.go:250", #[], none⟩) (v := ?_) rfl (by kernel_rfl) (by kernel_rfl) (by kernel_rfl) (fun _ _ _ h => h) (Or.inl ⟨by rfl, ?_⟩) (by assumption) ?_
    rotate_left
    · intro wq hSw
      (try dsimp only at hSw)
      go_simp
      try with_reducible rfl
    try simp only [Act.put, qA, qB, qC]
    refine wpAnyH_take (i := 5) (oi := ⟨some 24, .lookup 102 (.tmp 22) (.tmp 23) false, 67, "l5_store.go:250", #[⟨3, .data⟩, ⟨4, .data⟩], none⟩) (v := ?_) rfl (by kernel_rfl) (by kernel_rfl) (by kernel_rfl) (fun _ _ _ h => h) (Or.inl ⟨by rfl, ?_⟩) (by assumption) ?_
    rotate_left
    · intro wq hSw
      (try dsimp only at hSw)
      have hq := HLR.out wq hSw.2.2.2.2
      go_simp
      try with_reducible rfl
    try simp only [Act.put, qA, qB, qC]
    refine wpAnyH_take (i := 6) (oi := ⟨some 25, .load 67 (.tmp 3), 67, "l5_store.go:250", #[], none⟩) (v := ?_) rfl (by kernel_rfl) (by kernel_rfl) (by kernel_rfl) (fun _ _ _ h => h) (Or.inl ⟨by rfl, ?_⟩) (by assumption) ?_
    rotate_left
    · intro wq hSw
      (try dsimp only at hSw)
      go_simp
      try with_reducible rfl
    try simp only [Act.put, qA, qB, qC]
    refine wpAnyH_ready (rs := [7]) (by kernel_rfl) (by simp) ?_
    refine AllReadyH.cons (o := ⟨some 26, .call ⟨.value (.func 91), #[.tmp 24, .tmp 25], #[67, 67]⟩, 4, "l5_store.go:250", #[⟨5, .data⟩, ⟨6, .data⟩], none⟩) rfl (fun K hK => ?_) AllReadyH.nil
    go_simp
    refine (c91 y x a2 a c2 c _ hyl hg G2 GX).mono ?_
    rintro e u1 ⟨⟨bb, rfl, hbb⟩, hb1⟩
    go_wp2_with fail
    have b1 := hbd.trans (hb1.mono (by show U0.heap.size ≤ wr.heap.size; exact hbr.size))
    have p2 := (b1.cell (p := ⟨H, 2, none⟩) (show H < U0.heap.size by omega)).trans f2
    have p0 := (b1.cell (p := ⟨w.heap.size, 0, none⟩) (show w.heap.size < U0.heap.size by omega)).trans e0
    have p1 := (b1.cell (p := ⟨w.heap.size, 1, none⟩) (show w.heap.size < U0.heap.size by omega)).trans e1
    have p3 := (b1.cell (p := ⟨w.heap.size, 2, none⟩) (show w.heap.size < U0.heap.size by omega)).trans e2
    have pr := (b1.block bR (show bR < U0.heap.size by omega)).trans hr0
    clear hHeld
    refine hK.out _ _ ⟨p2, p0, p1, p3, pr⟩ (fun hHeld => ?_)
    clear hK K hHeld
    try simp only [Act.put, qA, qB, qC]
    refine wpAnyH_done (by kernel_rfl) ?_ _
    cases bb
    · go_wp2
      go_roundw
      case rel => exact ⟨k + 1, by omega, by go_num, fun j hj => by
       rcases Nat.lt_or_ge j k with h | h
       · exact HJ.out j h
       · obtain rfl : j = k := by omega
         rw [hzp]
         exact fun e => absurd (hbb.2 (HY.out.symm.trans e)) Bool.false_ne_true, b1⟩
      case measure => simp [Go.RowKit.intOf]; omega
    · go_wp2
      go_ret
      exact ⟨⟨true, rfl, fun _ => (HY.out.trans (by simpa using hbb)) ▸ getD_memR hp, fun _ => rfl⟩, hB0.trans (b1.mono (by omega))⟩
  · obtain rfl : k = (plc rs x.key).length := by omega
    go_wp2
    go_ret
    refine ⟨⟨false, rfl, fun h => absurd h Bool.false_ne_true, fun h => ?_⟩, hB0.trans (hbr.mono (by omega))⟩
    obtain ⟨p, hp, hpx⟩ := mem_getDR h
    obtain ⟨j, hj, hjp⟩ := plc_has hp (by rw [hpx])
    have := HJ.out j hj
    rw [hjp] at this
    exact absurd hpx this
end Go.Proofs.YtkhlekmicpmpkaaGreatDoor
