import Derived.Test.YtpjpckmfehfniaaGreatDoorH5
namespace Go.Proofs.YtpjpckmfehfniaaGreatDoor
open Go.RowKit
theorem fill_type {B : Nat} {t : TypeId} (vs : List Value) : ∀ {u : World} (j : Nat), (∃ a, u.heap[B]? = some (.cells a t (0, 0))) → ∃ a, (M.fill u B j vs).heap[B]? = some (.cells a t (0, 0)) := by
 induction vs with
 | nil => intro u j h; exact h
 | cons v vs ih =>
   intro u j h
   obtain ⟨a, ha⟩ := h
   exact ih (j + 1) ⟨_, heap_setCell_same u B j _ t v ha⟩
theorem lkown_but {u u' : World} {B g : Nat} {ao : Option Addr} {is : List M.L4} (h : M.LkOwn u B ao is) (hb : M.But g u u') (hg : g < B) : M.LkOwn u' B ao is := by
 rcases h.own with h1 | ⟨q, rfl, h2, h3⟩
 · exact ⟨.inl h1, .inl h1⟩
 · exact ⟨M.lks_but h.at' hb (by omega), .inr ⟨q, rfl, h2, M.open4_but h3 hb (by omega)⟩⟩
theorem blk_but {u u' : World} {B g : Nat} {vs : List Value} (h : M.BlkAt u B vs) (hb : M.But g u u') (hB : B < u.heap.size) (hne : B ≠ g) : M.BlkAt u' B vs := fun j v e => (hb.cell (p := ⟨B, j, none⟩) hB hne).trans (h j v e)
theorem opn_but {u u' : World} {B g : Nat} (h : M.OpnAt u B) (hb : M.But g u u') (hB : B < u.heap.size) (hne : B ≠ g) : M.OpnAt u' B := fun j => (World.frozen?_of_block (a := ⟨B, j, none⟩) (hb.block B hB hne)).trans (h j)
set_option maxHeartbeats 8000000 in
set_option maxRecDepth 100000 in
theorem c15 (x : M.W19) (t : TN) (b n : Nat) (w : World) (hx : x.of.le 1048576) (hat : M.LksAt w (some ⟨b, 0, none⟩) x.of.ls) (ht : goT x.of.km x.of.ls = t) :
 Calls Tryz.prog 15 #[.agg #[.int .i64 x.no, .bool x.up, .bool x.has, .int .i64 x.of.kd, .int .i64 x.of.to, .int .i64 x.of.fr, .int .i64 x.of.ep, .int .i64 x.of.ed, .string x.of.km.nm, .string x.of.km.tl, .string x.of.km.ar, .slice (some ⟨b, 0, none⟩) x.of.ls.length n, .int .i64 x.of.ct, .bool x.of.tn.over, .int .i64 x.of.tn.cd, .string x.of.tn.tx, .bool x.of.tn.has, .string x.of.tn.nm, .int .i64 x.of.tn.st]] w fun e w' => (∃ (y : M.W19) (k : Nat) (C : List Value) (ao : Option Addr) (c : Nat) (v : Value), e = .returned (.tuple #[.agg #[.int .i64 y.no, .bool y.up, .bool y.has, .int .i64 y.of.kd, .int .i64 y.of.to, .int .i64 y.of.fr, .int .i64 y.of.ep, .int .i64 y.of.ed, .string y.of.km.nm, .string y.of.km.tl, .string y.of.km.ar, .slice ao y.of.ls.length c, .int .i64 y.of.ct, .bool y.of.tn.over, .int .i64 y.of.tn.cd, .string y.of.tn.tx, .bool y.of.tn.has, .string y.of.tn.nm, .int .i64 y.of.tn.st], v]) ∧ TickR x t y k C ∧ M.LkOwn w' w.heap.size ao y.of.ls ∧ w'.ownsRow w.heap.size 48 16 v k C) ∧ Below w.heap.size w w' := by
 have HA : Hid (M.LksAt w (some ⟨b, 0, none⟩) x.of.ls) := hat
 have HX : Hid (x.of.le 1048576) := hx
 have HT : Hid (goT x.of.km x.of.ls = t) := ht
 clear hat hx ht
 have ZX : M.BlkAt (((w.alloc (.cells #[.int .i64 x.no, .bool x.up, .bool x.has, .int .i64 x.of.kd, .int .i64 x.of.to, .int .i64 x.of.fr, .int .i64 x.of.ep, .int .i64 x.of.ed, .string x.of.km.nm, .string x.of.km.tl, .string x.of.km.ar, .slice (some ⟨b, 0, none⟩) x.of.ls.length n, .int .i64 x.of.ct, .bool x.of.tn.over, .int .i64 x.of.tn.cd, .string x.of.tn.tx, .bool x.of.tn.has, .string x.of.tn.nm, .int .i64 x.of.tn.st] 50)).alloc (.cells #[.int .i64 0, .bool false, .bool false, .int .i64 0, .int .i64 0, .int .i64 0, .int .i64 0, .int .i64 0, .string ⟨#[]⟩, .string ⟨#[]⟩, .string ⟨#[]⟩, .slice none 0 0, .int .i64 0, .bool false, .int .i64 0, .string ⟨#[]⟩, .bool false, .string ⟨#[]⟩, .int .i64 0] 50)).alloc (.cells #[] 48)) w.heap.size [.int .i64 x.no, .bool x.up, .bool x.has, .int .i64 x.of.kd, .int .i64 x.of.to, .int .i64 x.of.fr, .int .i64 x.of.ep, .int .i64 x.of.ed, .string x.of.km.nm, .string x.of.km.tl, .string x.of.km.ar, .slice (some ⟨b, 0, none⟩) x.of.ls.length n, .int .i64 x.of.ct, .bool x.of.tn.over, .int .i64 x.of.tn.cd, .string x.of.tn.tx, .bool x.of.tn.has, .string x.of.tn.nm, .int .i64 x.of.tn.st] := (M.blk_new w [.int .i64 x.no, .bool x.up, .bool x.has, .int .i64 x.of.kd, .int .i64 x.of.to, .int .i64 x.of.fr, .int .i64 x.of.ep, .int .i64 x.of.ed, .string x.of.km.nm, .string x.of.km.tl, .string x.of.km.ar, .slice (some ⟨b, 0, none⟩) x.of.ls.length n, .int .i64 x.of.ct, .bool x.of.tn.over, .int .i64 x.of.tn.cd, .string x.of.tn.tx, .bool x.of.tn.has, .string x.of.tn.nm, .int .i64 x.of.tn.st] 50).below (N := w.heap.size + 1) (((Below.refl _ _).alloc (by simp) _).alloc (by simp) _) (Nat.lt_succ_self _)
 go_enter Tryz.func15, Tryz.ntmps15
 go_wp2_with (refine M.wpList_load_blk rfl 50 _ rfl w.heap.size rfl [.int .i64 x.no, .bool x.up, .bool x.has, .int .i64 x.of.kd, .int .i64 x.of.to, .int .i64 x.of.fr, .int .i64 x.of.ep, .int .i64 x.of.ed, .string x.of.km.nm, .string x.of.km.tl, .string x.of.km.ar, .slice (some ⟨b, 0, none⟩) x.of.ls.length n, .int .i64 x.of.ct, .bool x.of.tn.over, .int .i64 x.of.tn.cd, .string x.of.tn.tx, .bool x.of.tn.has, .string x.of.tn.nm, .int .i64 x.of.tn.st] _ ZX Tryz.underlying50 rfl (by kernel_rfl) ?_)
 obtain ⟨V, hV⟩ : ∃ V, V = (((w.alloc (.cells #[.int .i64 x.no, .bool x.up, .bool x.has, .int .i64 x.of.kd, .int .i64 x.of.to, .int .i64 x.of.fr, .int .i64 x.of.ep, .int .i64 x.of.ed, .string x.of.km.nm, .string x.of.km.tl, .string x.of.km.ar, .slice (some ⟨b, 0, none⟩) x.of.ls.length n, .int .i64 x.of.ct, .bool x.of.tn.over, .int .i64 x.of.tn.cd, .string x.of.tn.tx, .bool x.of.tn.has, .string x.of.tn.nm, .int .i64 x.of.tn.st] 50)).alloc (.cells #[.int .i64 0, .bool false, .bool false, .int .i64 0, .int .i64 0, .int .i64 0, .int .i64 0, .int .i64 0, .string ⟨#[]⟩, .string ⟨#[]⟩, .string ⟨#[]⟩, .slice none 0 0, .int .i64 0, .bool false, .int .i64 0, .string ⟨#[]⟩, .bool false, .string ⟨#[]⟩, .int .i64 0] 50)).alloc (.cells #[] 48)) := ⟨_, rfl⟩
 rw [← hV]
 have hB0 : Below w.heap.size w V := by rw [hV]; exact (((Below.refl _ _).alloc (Nat.le_refl _) _).alloc (by simp) _).alloc (by simp; omega) _
 have hz0 : V.heap.size = w.heap.size + 3 := by rw [hV]; simp
 have ZR : M.BlkAt V (w.heap.size + 1) [.int .i64 0, .bool false, .bool false, .int .i64 0, .int .i64 0, .int .i64 0, .int .i64 0, .int .i64 0, .string ⟨#[]⟩, .string ⟨#[]⟩, .string ⟨#[]⟩, .slice none 0 0, .int .i64 0, .bool false, .int .i64 0, .string ⟨#[]⟩, .bool false, .string ⟨#[]⟩, .int .i64 0] := by
  have h := M.blk_new (w.alloc (.cells #[.int .i64 x.no, .bool x.up, .bool x.has, .int .i64 x.of.kd, .int .i64 x.of.to, .int .i64 x.of.fr, .int .i64 x.of.ep, .int .i64 x.of.ed, .string x.of.km.nm, .string x.of.km.tl, .string x.of.km.ar, .slice (some ⟨b, 0, none⟩) x.of.ls.length n, .int .i64 x.of.ct, .bool x.of.tn.over, .int .i64 x.of.tn.cd, .string x.of.tn.tx, .bool x.of.tn.has, .string x.of.tn.nm, .int .i64 x.of.tn.st] 50)) [.int .i64 0, .bool false, .bool false, .int .i64 0, .int .i64 0, .int .i64 0, .int .i64 0, .int .i64 0, .string ⟨#[]⟩, .string ⟨#[]⟩, .string ⟨#[]⟩, .slice none 0 0, .int .i64 0, .bool false, .int .i64 0, .string ⟨#[]⟩, .bool false, .string ⟨#[]⟩, .int .i64 0] 50
  rw [hV]
  refine M.BlkAt.below (N := w.heap.size + 2) (u := (w.alloc (.cells #[.int .i64 x.no, .bool x.up, .bool x.has, .int .i64 x.of.kd, .int .i64 x.of.to, .int .i64 x.of.fr, .int .i64 x.of.ep, .int .i64 x.of.ed, .string x.of.km.nm, .string x.of.km.tl, .string x.of.km.ar, .slice (some ⟨b, 0, none⟩) x.of.ls.length n, .int .i64 x.of.ct, .bool x.of.tn.over, .int .i64 x.of.tn.cd, .string x.of.tn.tx, .bool x.of.tn.has, .string x.of.tn.nm, .int .i64 x.of.tn.st] 50)).alloc (.cells #[.int .i64 0, .bool false, .bool false, .int .i64 0, .int .i64 0, .int .i64 0, .int .i64 0, .int .i64 0, .string ⟨#[]⟩, .string ⟨#[]⟩, .string ⟨#[]⟩, .slice none 0 0, .int .i64 0, .bool false, .int .i64 0, .string ⟨#[]⟩, .bool false, .string ⟨#[]⟩, .int .i64 0] 50)) (by simpa using h) ((Below.refl _ _).alloc (by simp) _) (by omega)
 have fR : M.OpnAt V (w.heap.size + 1) := by
  have h := M.opn_new (w.alloc (.cells #[.int .i64 x.no, .bool x.up, .bool x.has, .int .i64 x.of.kd, .int .i64 x.of.to, .int .i64 x.of.fr, .int .i64 x.of.ep, .int .i64 x.of.ed, .string x.of.km.nm, .string x.of.km.tl, .string x.of.km.ar, .slice (some ⟨b, 0, none⟩) x.of.ls.length n, .int .i64 x.of.ct, .bool x.of.tn.over, .int .i64 x.of.tn.cd, .string x.of.tn.tx, .bool x.of.tn.has, .string x.of.tn.nm, .int .i64 x.of.tn.st] 50)) #[.int .i64 0, .bool false, .bool false, .int .i64 0, .int .i64 0, .int .i64 0, .int .i64 0, .int .i64 0, .string ⟨#[]⟩, .string ⟨#[]⟩, .string ⟨#[]⟩, .slice none 0 0, .int .i64 0, .bool false, .int .i64 0, .string ⟨#[]⟩, .bool false, .string ⟨#[]⟩, .int .i64 0] 50
  rw [hV]
  refine M.OpnAt.below (N := w.heap.size + 2) (u := (w.alloc (.cells #[.int .i64 x.no, .bool x.up, .bool x.has, .int .i64 x.of.kd, .int .i64 x.of.to, .int .i64 x.of.fr, .int .i64 x.of.ep, .int .i64 x.of.ed, .string x.of.km.nm, .string x.of.km.tl, .string x.of.km.ar, .slice (some ⟨b, 0, none⟩) x.of.ls.length n, .int .i64 x.of.ct, .bool x.of.tn.over, .int .i64 x.of.tn.cd, .string x.of.tn.tx, .bool x.of.tn.has, .string x.of.tn.nm, .int .i64 x.of.tn.st] 50)).alloc (.cells #[.int .i64 0, .bool false, .bool false, .int .i64 0, .int .i64 0, .int .i64 0, .int .i64 0, .int .i64 0, .string ⟨#[]⟩, .string ⟨#[]⟩, .string ⟨#[]⟩, .slice none 0 0, .int .i64 0, .bool false, .int .i64 0, .string ⟨#[]⟩, .bool false, .string ⟨#[]⟩, .int .i64 0] 50)) (by simpa using h) ((Below.refl _ _).alloc (by simp) _) (by omega)
 have hOw : V.ownsRow (w.heap.size + 2) 48 16 (.slice (some ⟨w.heap.size + 2, 0, none⟩) 0 0) 0 [] := by
  rw [hV]
  exact ⟨rfl, .inr ⟨w.heap.size + 2, 0, #[], rfl, Nat.le_refl _, alloc_new (by simp) _, Nat.le_refl _, Nat.zero_le _, rfl, rfl⟩⟩
 rw [← hV] at ZX
 clear hV
 refine (M.c29 x (some ⟨b, 0, none⟩) n V HX.out (M.lks_below HA.out hB0)).mono ?_
 rintro e w1 ⟨⟨r, rfl, hr⟩, hb1⟩
 have HR : Hid (r = true ↔ M.WkOk x) := hr
 have hB1 : Below w.heap.size w w1 := hB0.trans (hb1.mono hB0.size)
 have hz1 : w.heap.size + 3 ≤ w1.heap.size := by rw [← hz0]; exact hb1.size
 have ZX1 := ZX.below hb1 (by omega)
 have ZR1 := ZR.below hb1 (by omega)
 have fR1 := fR.below hb1 (by omega)
 have HO1 := hidI (ownsRow_below hOw hb1)
 clear hr hb1 ZX ZR fR hB0 hz0 hOw
 cases r
 · have hSome : ∀ i, i < ([.int .i64 0, .bool false, .bool false, .int .i64 0, .int .i64 0, .int .i64 0, .int .i64 0, .int .i64 0, .string ⟨#[]⟩, .string ⟨#[]⟩, .string ⟨#[]⟩, .slice none 0 0, .int .i64 0, .bool false, .int .i64 0, .string ⟨#[]⟩, .bool false, .string ⟨#[]⟩, .int .i64 0] : List Value).length → (w1.cell? ⟨w.heap.size + 1, 0 + i, none⟩).isSome = true := fun i hi => by
    rw [Nat.zero_add, ZR1 i _ (List.getElem?_eq_getElem hi)]
    rfl
   go_wp2_with (refine M.wpList_store_blk rfl 50 _ _ rfl (w.heap.size + 1) 0 rfl [.int .i64 0, .bool false, .bool false, .int .i64 0, .int .i64 0, .int .i64 0, .int .i64 0, .int .i64 0, .string ⟨#[]⟩, .string ⟨#[]⟩, .string ⟨#[]⟩, .slice none 0 0, .int .i64 0, .bool false, .int .i64 0, .string ⟨#[]⟩, .bool false, .string ⟨#[]⟩, .int .i64 0] rfl hSome fR1 (by simp [Value.oneCell']) (by kernel_rfl) rfl ?_)
   have F : M.BlkAt (M.fill w1 (w.heap.size + 1) 0 [.int .i64 0, .bool false, .bool false, .int .i64 0, .int .i64 0, .int .i64 0, .int .i64 0, .int .i64 0, .string ⟨#[]⟩, .string ⟨#[]⟩, .string ⟨#[]⟩, .slice none 0 0, .int .i64 0, .bool false, .int .i64 0, .string ⟨#[]⟩, .bool false, .string ⟨#[]⟩, .int .i64 0]) (w.heap.size + 1) [.int .i64 0, .bool false, .bool false, .int .i64 0, .int .i64 0, .int .i64 0, .int .i64 0, .int .i64 0, .string ⟨#[]⟩, .string ⟨#[]⟩, .string ⟨#[]⟩, .slice none 0 0, .int .i64 0, .bool false, .int .i64 0, .string ⟨#[]⟩, .bool false, .string ⟨#[]⟩, .int .i64 0] := ZR1.fill0 rfl
   have hBE : Below w.heap.size w (M.fill w1 (w.heap.size + 1) 0 [.int .i64 0, .bool false, .bool false, .int .i64 0, .int .i64 0, .int .i64 0, .int .i64 0, .int .i64 0, .string ⟨#[]⟩, .string ⟨#[]⟩, .string ⟨#[]⟩, .slice none 0 0, .int .i64 0, .bool false, .int .i64 0, .string ⟨#[]⟩, .bool false, .string ⟨#[]⟩, .int .i64 0]) := M.below_fill (by omega) _ _ hB1
   have HTR : Hid (TickR x t M.w19z 0 []) := .inl ⟨fun h => Bool.false_ne_true (HR.out.2 h), rfl, rfl, rfl⟩
   have HOE : Hid ((M.fill w1 (w.heap.size + 1) 0 [.int .i64 0, .bool false, .bool false, .int .i64 0, .int .i64 0, .int .i64 0, .int .i64 0, .int .i64 0, .string ⟨#[]⟩, .string ⟨#[]⟩, .string ⟨#[]⟩, .slice none 0 0, .int .i64 0, .bool false, .int .i64 0, .string ⟨#[]⟩, .bool false, .string ⟨#[]⟩, .int .i64 0]).ownsRow w.heap.size 48 16 (.slice (some ⟨w.heap.size + 2, 0, none⟩) 0 0) 0 []) := owns_mono (ownsRow_keep HO1.out fun q hq => by
    obtain ⟨hq1, cur, hc⟩ := own_block HO1.out hq
    exact (M.but_fill _ _ (M.But.refl (w.heap.size + 1) w1)).block q (blk_lt hc) (by omega)) (by omega)
   generalize (M.fill w1 (w.heap.size + 1) 0 [.int .i64 0, .bool false, .bool false, .int .i64 0, .int .i64 0, .int .i64 0, .int .i64 0, .int .i64 0, .string ⟨#[]⟩, .string ⟨#[]⟩, .string ⟨#[]⟩, .slice none 0 0, .int .i64 0, .bool false, .int .i64 0, .string ⟨#[]⟩, .bool false, .string ⟨#[]⟩, .int .i64 0]) = U at *
   refine bodyPost_ret (v := .tuple #[.agg #[.int .i64 0, .bool false, .bool false, .int .i64 0, .int .i64 0, .int .i64 0, .int .i64 0, .int .i64 0, .string ⟨#[]⟩, .string ⟨#[]⟩, .string ⟨#[]⟩, .slice none 0 0, .int .i64 0, .bool false, .int .i64 0, .string ⟨#[]⟩, .bool false, .string ⟨#[]⟩, .int .i64 0], .slice (some ⟨w.heap.size + 2, 0, none⟩) 0 0]) (results_blk2 (P := Tryz.prog) (ty := 50) rfl _ U (w.heap.size + 1) [.int .i64 0, .bool false, .bool false, .int .i64 0, .int .i64 0, .int .i64 0, .int .i64 0, .int .i64 0, .string ⟨#[]⟩, .string ⟨#[]⟩, .string ⟨#[]⟩, .slice none 0 0, .int .i64 0, .bool false, .int .i64 0, .string ⟨#[]⟩, .bool false, .string ⟨#[]⟩, .int .i64 0] _ _ rfl rfl F Tryz.underlying50 rfl (by kernel_rfl)) rfl ⟨⟨M.w19z, 0, [], none, 0, _, rfl, HTR.out, ?_, HOE.out⟩, hBE⟩
   exact ⟨.inl rfl, .inl rfl⟩
 · have hK : Hid (M.WkOk x) := HR.out.1 rfl
   go_wp2_with (refine M.wpList_load_blk rfl 50 (.tmp 1) rfl w.heap.size rfl [.int .i64 x.no, .bool x.up, .bool x.has, .int .i64 x.of.kd, .int .i64 x.of.to, .int .i64 x.of.fr, .int .i64 x.of.ep, .int .i64 x.of.ed, .string x.of.km.nm, .string x.of.km.tl, .string x.of.km.ar, .slice (some ⟨b, 0, none⟩) x.of.ls.length n, .int .i64 x.of.ct, .bool x.of.tn.over, .int .i64 x.of.tn.cd, .string x.of.tn.tx, .bool x.of.tn.has, .string x.of.tn.nm, .int .i64 x.of.tn.st] _ ZX1 Tryz.underlying50 rfl (by kernel_rfl) ?_)
   refine (M.c45 x b n w1 HX.out.2.1.1 (M.lks_below HA.out hB1)).mono ?_
   rintro e w2 ⟨⟨ao, c, rfl, hlk⟩, hb2⟩
   have hz2 := hb2.size
   have hB2 : Below w.heap.size w w2 := hB1.trans (hb2.mono (by omega))
   have ZX2 := ZX1.below hb2 (by omega)
   have ZR2 := ZR1.below hb2 (by omega)
   have fR2 := fR1.below hb2 (by omega)
   have HO2 := hidI (ownsRow_below HO1.out hb2)
   have ZS : M.BlkAt (w2.alloc (.cells #[.int .i64 0, .bool false, .bool false, .int .i64 0, .int .i64 0, .int .i64 0, .int .i64 0, .int .i64 0, .string ⟨#[]⟩, .string ⟨#[]⟩, .string ⟨#[]⟩, .slice none 0 0, .int .i64 0, .bool false, .int .i64 0, .string ⟨#[]⟩, .bool false, .string ⟨#[]⟩, .int .i64 0] 50)) w2.heap.size [.int .i64 0, .bool false, .bool false, .int .i64 0, .int .i64 0, .int .i64 0, .int .i64 0, .int .i64 0, .string ⟨#[]⟩, .string ⟨#[]⟩, .string ⟨#[]⟩, .slice none 0 0, .int .i64 0, .bool false, .int .i64 0, .string ⟨#[]⟩, .bool false, .string ⟨#[]⟩, .int .i64 0] := M.blk_new w2 [.int .i64 0, .bool false, .bool false, .int .i64 0, .int .i64 0, .int .i64 0, .int .i64 0, .int .i64 0, .string ⟨#[]⟩, .string ⟨#[]⟩, .string ⟨#[]⟩, .slice none 0 0, .int .i64 0, .bool false, .int .i64 0, .string ⟨#[]⟩, .bool false, .string ⟨#[]⟩, .int .i64 0] 50
   have fS : M.OpnAt (w2.alloc (.cells #[.int .i64 0, .bool false, .bool false, .int .i64 0, .int .i64 0, .int .i64 0, .int .i64 0, .int .i64 0, .string ⟨#[]⟩, .string ⟨#[]⟩, .string ⟨#[]⟩, .slice none 0 0, .int .i64 0, .bool false, .int .i64 0, .string ⟨#[]⟩, .bool false, .string ⟨#[]⟩, .int .i64 0] 50)) w2.heap.size := M.opn_new w2 _ 50
   have hSome : ∀ i, i < ([.int .i64 x.no, .bool x.up, .bool x.has, .int .i64 x.of.kd, .int .i64 x.of.to, .int .i64 x.of.fr, .int .i64 x.of.ep, .int .i64 x.of.ed, .string x.of.km.nm, .string x.of.km.tl, .string x.of.km.ar, .slice ao x.of.ls.length c, .int .i64 x.of.ct, .bool x.of.tn.over, .int .i64 x.of.tn.cd, .string x.of.tn.tx, .bool x.of.tn.has, .string x.of.tn.nm, .int .i64 x.of.tn.st] : List Value).length → ((w2.alloc (.cells #[.int .i64 0, .bool false, .bool false, .int .i64 0, .int .i64 0, .int .i64 0, .int .i64 0, .int .i64 0, .string ⟨#[]⟩, .string ⟨#[]⟩, .string ⟨#[]⟩, .slice none 0 0, .int .i64 0, .bool false, .int .i64 0, .string ⟨#[]⟩, .bool false, .string ⟨#[]⟩, .int .i64 0] 50)).cell? ⟨w2.heap.size, 0 + i, none⟩).isSome = true := fun i hi => by
    have hz : i < ([.int .i64 0, .bool false, .bool false, .int .i64 0, .int .i64 0, .int .i64 0, .int .i64 0, .int .i64 0, .string ⟨#[]⟩, .string ⟨#[]⟩, .string ⟨#[]⟩, .slice none 0 0, .int .i64 0, .bool false, .int .i64 0, .string ⟨#[]⟩, .bool false, .string ⟨#[]⟩, .int .i64 0] : List Value).length := hi
    rw [Nat.zero_add, ZS i _ (List.getElem?_eq_getElem hz)]
    rfl
   go_wp2_with (first | refine M.wpList_val rfl (.alloc 50) rfl (.pointer (some ⟨w2.heap.size, 0, none⟩)) (w2.alloc (.cells #[.int .i64 0, .bool false, .bool false, .int .i64 0, .int .i64 0, .int .i64 0, .int .i64 0, .int .i64 0, .string ⟨#[]⟩, .string ⟨#[]⟩, .string ⟨#[]⟩, .slice none 0 0, .int .i64 0, .bool false, .int .i64 0, .string ⟨#[]⟩, .bool false, .string ⟨#[]⟩, .int .i64 0] 50)) (by kernel_rfl) ?_ | (refine M.wpList_store_blk rfl 50 (.tmp 5) (.tmp 14) rfl w2.heap.size 0 rfl [.int .i64 x.no, .bool x.up, .bool x.has, .int .i64 x.of.kd, .int .i64 x.of.to, .int .i64 x.of.fr, .int .i64 x.of.ep, .int .i64 x.of.ed, .string x.of.km.nm, .string x.of.km.tl, .string x.of.km.ar, .slice ao x.of.ls.length c, .int .i64 x.of.ct, .bool x.of.tn.over, .int .i64 x.of.tn.cd, .string x.of.tn.tx, .bool x.of.tn.has, .string x.of.tn.nm, .int .i64 x.of.tn.st] rfl hSome fS (by simp [Value.oneCell']) (by kernel_rfl) rfl ?_; refine Hid.out ?_))
   unfold Hid
   have hW2 : Below w2.heap.size w2 (M.fill (w2.alloc (.cells #[.int .i64 0, .bool false, .bool false, .int .i64 0, .int .i64 0, .int .i64 0, .int .i64 0, .int .i64 0, .string ⟨#[]⟩, .string ⟨#[]⟩, .string ⟨#[]⟩, .slice none 0 0, .int .i64 0, .bool false, .int .i64 0, .string ⟨#[]⟩, .bool false, .string ⟨#[]⟩, .int .i64 0] 50)) w2.heap.size 0 [.int .i64 x.no, .bool x.up, .bool x.has, .int .i64 x.of.kd, .int .i64 x.of.to, .int .i64 x.of.fr, .int .i64 x.of.ep, .int .i64 x.of.ed, .string x.of.km.nm, .string x.of.km.tl, .string x.of.km.ar, .slice ao x.of.ls.length c, .int .i64 x.of.ct, .bool x.of.tn.over, .int .i64 x.of.tn.cd, .string x.of.tn.tx, .bool x.of.tn.has, .string x.of.tn.nm, .int .i64 x.of.tn.st]) := M.below_fill (Nat.le_refl _) _ _ ((Below.refl _ _).alloc (Nat.le_refl _) _)
   have ZYU : M.BlkAt (M.fill (w2.alloc (.cells #[.int .i64 0, .bool false, .bool false, .int .i64 0, .int .i64 0, .int .i64 0, .int .i64 0, .int .i64 0, .string ⟨#[]⟩, .string ⟨#[]⟩, .string ⟨#[]⟩, .slice none 0 0, .int .i64 0, .bool false, .int .i64 0, .string ⟨#[]⟩, .bool false, .string ⟨#[]⟩, .int .i64 0] 50)) w2.heap.size 0 [.int .i64 x.no, .bool x.up, .bool x.has, .int .i64 x.of.kd, .int .i64 x.of.to, .int .i64 x.of.fr, .int .i64 x.of.ep, .int .i64 x.of.ed, .string x.of.km.nm, .string x.of.km.tl, .string x.of.km.ar, .slice ao x.of.ls.length c, .int .i64 x.of.ct, .bool x.of.tn.over, .int .i64 x.of.tn.cd, .string x.of.tn.tx, .bool x.of.tn.has, .string x.of.tn.nm, .int .i64 x.of.tn.st]) w2.heap.size [.int .i64 x.no, .bool x.up, .bool x.has, .int .i64 x.of.kd, .int .i64 x.of.to, .int .i64 x.of.fr, .int .i64 x.of.ep, .int .i64 x.of.ed, .string x.of.km.nm, .string x.of.km.tl, .string x.of.km.ar, .slice ao x.of.ls.length c, .int .i64 x.of.ct, .bool x.of.tn.over, .int .i64 x.of.tn.cd, .string x.of.tn.tx, .bool x.of.tn.has, .string x.of.tn.nm, .int .i64 x.of.tn.st] := ZS.fill0 rfl
   have fYU : M.OpnAt (M.fill (w2.alloc (.cells #[.int .i64 0, .bool false, .bool false, .int .i64 0, .int .i64 0, .int .i64 0, .int .i64 0, .int .i64 0, .string ⟨#[]⟩, .string ⟨#[]⟩, .string ⟨#[]⟩, .slice none 0 0, .int .i64 0, .bool false, .int .i64 0, .string ⟨#[]⟩, .bool false, .string ⟨#[]⟩, .int .i64 0] 50)) w2.heap.size 0 [.int .i64 x.no, .bool x.up, .bool x.has, .int .i64 x.of.kd, .int .i64 x.of.to, .int .i64 x.of.fr, .int .i64 x.of.ep, .int .i64 x.of.ed, .string x.of.km.nm, .string x.of.km.tl, .string x.of.km.ar, .slice ao x.of.ls.length c, .int .i64 x.of.ct, .bool x.of.tn.over, .int .i64 x.of.tn.cd, .string x.of.tn.tx, .bool x.of.tn.has, .string x.of.tn.nm, .int .i64 x.of.tn.st]) w2.heap.size := M.OpnAt.fill _ _ fS
   have hzU : (M.fill (w2.alloc (.cells #[.int .i64 0, .bool false, .bool false, .int .i64 0, .int .i64 0, .int .i64 0, .int .i64 0, .int .i64 0, .string ⟨#[]⟩, .string ⟨#[]⟩, .string ⟨#[]⟩, .slice none 0 0, .int .i64 0, .bool false, .int .i64 0, .string ⟨#[]⟩, .bool false, .string ⟨#[]⟩, .int .i64 0] 50)) w2.heap.size 0 [.int .i64 x.no, .bool x.up, .bool x.has, .int .i64 x.of.kd, .int .i64 x.of.to, .int .i64 x.of.fr, .int .i64 x.of.ep, .int .i64 x.of.ed, .string x.of.km.nm, .string x.of.km.tl, .string x.of.km.ar, .slice ao x.of.ls.length c, .int .i64 x.of.ct, .bool x.of.tn.over, .int .i64 x.of.tn.cd, .string x.of.tn.tx, .bool x.of.tn.has, .string x.of.tn.nm, .int .i64 x.of.tn.st]).heap.size = w2.heap.size + 1 := by rw [M.size_fill]; simp
   have htX : ∃ a, (M.fill (w2.alloc (.cells #[.int .i64 0, .bool false, .bool false, .int .i64 0, .int .i64 0, .int .i64 0, .int .i64 0, .int .i64 0, .string ⟨#[]⟩, .string ⟨#[]⟩, .string ⟨#[]⟩, .slice none 0 0, .int .i64 0, .bool false, .int .i64 0, .string ⟨#[]⟩, .bool false, .string ⟨#[]⟩, .int .i64 0] 50)) w2.heap.size 0 [.int .i64 x.no, .bool x.up, .bool x.has, .int .i64 x.of.kd, .int .i64 x.of.to, .int .i64 x.of.fr, .int .i64 x.of.ep, .int .i64 x.of.ed, .string x.of.km.nm, .string x.of.km.tl, .string x.of.km.ar, .slice ao x.of.ls.length c, .int .i64 x.of.ct, .bool x.of.tn.over, .int .i64 x.of.tn.cd, .string x.of.tn.tx, .bool x.of.tn.has, .string x.of.tn.nm, .int .i64 x.of.tn.st]).heap[w2.heap.size]? = some (.cells a 50 (0, 0)) := fill_type _ 0 ⟨_, alloc_new rfl _⟩
   have ZXU := ZX2.below hW2 (by omega)
   have ZRU := ZR2.below hW2 (by omega)
   have fRU := fR2.below hW2 (by omega)
   have HOU := hidI (ownsRow_below HO2.out hW2)
   have HLU := hidI (M.lkown_below hlk hW2)
   have hBU : Below w.heap.size w (M.fill (w2.alloc (.cells #[.int .i64 0, .bool false, .bool false, .int .i64 0, .int .i64 0, .int .i64 0, .int .i64 0, .int .i64 0, .string ⟨#[]⟩, .string ⟨#[]⟩, .string ⟨#[]⟩, .slice none 0 0, .int .i64 0, .bool false, .int .i64 0, .string ⟨#[]⟩, .bool false, .string ⟨#[]⟩, .int .i64 0] 50)) w2.heap.size 0 [.int .i64 x.no, .bool x.up, .bool x.has, .int .i64 x.of.kd, .int .i64 x.of.to, .int .i64 x.of.fr, .int .i64 x.of.ep, .int .i64 x.of.ed, .string x.of.km.nm, .string x.of.km.tl, .string x.of.km.ar, .slice ao x.of.ls.length c, .int .i64 x.of.ct, .bool x.of.tn.over, .int .i64 x.of.tn.cd, .string x.of.tn.tx, .bool x.of.tn.has, .string x.of.tn.nm, .int .i64 x.of.tn.st]) := hB2.trans (hW2.mono (by omega))
   clear hSome ZS fS hW2 ZX2 ZR2 fR2 ZX1 ZR1 fR1 hlk hb2 hB1
   generalize (M.fill (w2.alloc (.cells #[.int .i64 0, .bool false, .bool false, .int .i64 0, .int .i64 0, .int .i64 0, .int .i64 0, .int .i64 0, .string ⟨#[]⟩, .string ⟨#[]⟩, .string ⟨#[]⟩, .slice none 0 0, .int .i64 0, .bool false, .int .i64 0, .string ⟨#[]⟩, .bool false, .string ⟨#[]⟩, .int .i64 0] 50)) w2.heap.size 0 [.int .i64 x.no, .bool x.up, .bool x.has, .int .i64 x.of.kd, .int .i64 x.of.to, .int .i64 x.of.fr, .int .i64 x.of.ep, .int .i64 x.of.ed, .string x.of.km.nm, .string x.of.km.tl, .string x.of.km.ar, .slice ao x.of.ls.length c, .int .i64 x.of.ct, .bool x.of.tn.over, .int .i64 x.of.tn.cd, .string x.of.tn.tx, .bool x.of.tn.has, .string x.of.tn.nm, .int .i64 x.of.tn.st]) = U at *
   obtain ⟨X, hX⟩ : ∃ X, X = w2.heap.size := ⟨_, rfl⟩
   rw [← hX] at ZYU fYU hzU hz2 htX
   have HTX : Hid (∃ a, U.heap[X]? = some (.cells a 50 (0, 0))) := htX
   clear htX
   rw [← hX]
   clear hX HO2 HO1
   have c1 := ZXU 1 _ rfl
   have hcase : x.up = true ∨ x.up = false := by cases x.up <;> simp
   rcases hcase with hup | hup
   · rw [hup] at c1
     have HUP : Hid (x.up = true) := hup
     clear hup
     have c0 := ZXU 0 _ rfl
     have c2 := ZXU 2 _ rfl
     obtain ⟨i0, hi, hz0', hz1', hz2'⟩ := info_parts info48
     have hlX : w.heap.size < U.heap.size := by omega
     have hO : U.ownsRow (w.heap.size + 2) 48 16 (.slice (some ⟨w.heap.size + 2, 0, none⟩) 0 0) 0 [] := HOU.out
     have hcase : x.has = true ∨ x.has = false := by cases x.has <;> simp
     rcases hcase with hha | hha
     · have HHA : Hid (x.has = true) := hha
       clear hha
       go_wp2_with (at_builtin; refine wpList_append_own _ rfl _ _ 51 rfl (w.heap.size + 2) 48 i0 (.agg #[.int .i64 0, .int .i64 0, .int .i64 0, .int .i64 0, .int .i64 0, .string ⟨#[]⟩, .string ⟨#[]⟩, .string ⟨#[]⟩, .slice none 0 0, .int .i64 0, .bool false, .int .i64 0, .string ⟨#[]⟩, .bool false, .string ⟨#[]⟩, .int .i64 0]) 16 184 Tryz.underlying51 hi hz0' hz1' hz2' rfl (by decide) _ _ _ rfl (hO.alloc _) ⟨X + 1, 0, none⟩ 1 1 [.int .i64 3, .int .i64 0, .int .i64 x.no, .int .i64 0, .int .i64 0, .string ⟨#[]⟩, .string ⟨#[]⟩, .string ⟨#[]⟩, .slice none 0 0, .int .i64 0, .bool false, .int .i64 0, .string ⟨#[]⟩, .bool false, .string ⟨#[]⟩, .int .i64 0] rfl rfl (row16n (by omega) [.int .i64 3, .int .i64 0, .int .i64 x.no, .int .i64 0, .int .i64 0, .string ⟨#[]⟩, .string ⟨#[]⟩, .string ⟨#[]⟩, .slice none 0 0, .int .i64 0, .bool false, .int .i64 0, .string ⟨#[]⟩, .bool false, .string ⟨#[]⟩, .int .i64 0] 48) (by simp [Value.oneCell']) (by unfold maxLen; omega) (by omega) (by simp; omega) ?_; intro v' UW hown hgrow _; have hbt : M.But (w.heap.size + 2) U UW := ⟨hgrow.os, hgrow.tape, hgrow.output, Nat.le_trans (by simp) hgrow.size, fun k hk hne => (hgrow.block k (by simp; omega) (fun e => by have e' : some k = some (w.heap.size + 2) := e; injection e' with e'; exact hne e')).trans (Lib.alloc_old U _ k hk)⟩; have ZXW := blk_but ZXU hbt (by omega) (by omega); have ZRW := blk_but ZRU hbt (by omega) (by omega); have fRW := opn_but fRU hbt (by omega) (by omega); have ZYW := blk_but ZYU hbt (by omega) (by omega); have fYW := opn_but fYU hbt (by omega) (by omega); have HLW : Hid (M.LkOwn UW w1.heap.size ao x.of.ls) := lkown_but HLU.out hbt (by omega); have hBW : Below w.heap.size w UW := hBU.trans (hbt.below (by omega) (by omega)); obtain ⟨a1, c1', rfl⟩ := row_formN hown; have HOW : Hid (UW.ownsRow (w.heap.size + 2) 48 16 (.slice a1 1 c1') 1 [.int .i64 3, .int .i64 0, .int .i64 x.no, .int .i64 0, .int .i64 0, .string ⟨#[]⟩, .string ⟨#[]⟩, .string ⟨#[]⟩, .slice none 0 0, .int .i64 0, .bool false, .int .i64 0, .string ⟨#[]⟩, .bool false, .string ⟨#[]⟩, .int .i64 0]) := hown; have hzW : U.heap.size ≤ UW.heap.size := hbt.size; have e2 := ZXW 2 _ rfl; rw [HHA.out] at e2; have a3 := ZXW 3 _ rfl; have a4 := ZXW 4 _ rfl; have a5 := ZXW 5 _ rfl; have a6 := ZXW 6 _ rfl; have a7 := ZXW 7 _ rfl; have a8 := ZXW 8 _ rfl; have a9 := ZXW 9 _ rfl; have a10 := ZXW 10 _ rfl; have a11 := ZXW 11 _ rfl; have a12 := ZXW 12 _ rfl; have a13 := ZXW 13 _ rfl; have a14 := ZXW 14 _ rfl; have a15 := ZXW 15 _ rfl; have a16 := ZXW 16 _ rfl; have a17 := ZXW 17 _ rfl; have a18 := ZXW 18 _ rfl; have b0 := ZXW 0 _ rfl; have HTW : Hid (∃ a, UW.heap[X]? = some (.cells a 50 (0, 0))) := (by obtain ⟨a, ha⟩ := HTX.out; exact ⟨a, (hbt.block X (by omega) (by omega)).trans ha⟩); clear hgrow hown hbt ZXU ZRU fRU ZYU fYU HLU HOU hO c0 c1 c2 hBU)
       obtain ⟨wA, hwA⟩ : ∃ wA, wA = UW.alloc (.cells #[.int .i64 x.of.kd, .int .i64 x.of.to, .int .i64 x.of.fr, .int .i64 x.of.ep, .int .i64 x.of.ed, .string x.of.km.nm, .string x.of.km.tl, .string x.of.km.ar, .slice (some ⟨b, 0, none⟩) x.of.ls.length n, .int .i64 x.of.ct, .bool x.of.tn.over, .int .i64 x.of.tn.cd, .string x.of.tn.tx, .bool x.of.tn.has, .string x.of.tn.nm, .int .i64 x.of.tn.st] 48) := ⟨_, rfl⟩
       obtain ⟨Of, hOe⟩ : ∃ Of, Of = UW.heap.size := ⟨_, rfl⟩
       have HOE' : Hid (Of = UW.heap.size) := hOe
       have HWA := hidI hwA
       have hzA : wA.heap.size = UW.heap.size + 1 := by rw [hwA]; simp
       have hbA : Below UW.heap.size UW wA := by rw [hwA]; exact (Below.refl _ _).alloc (Nat.le_refl _) _
       have HXA := hidI (ZXW.below hbA (by omega))
       have HQA : Hid (M.BlkAt wA Of [.int .i64 x.of.kd, .int .i64 x.of.to, .int .i64 x.of.fr, .int .i64 x.of.ep, .int .i64 x.of.ed, .string x.of.km.nm, .string x.of.km.tl, .string x.of.km.ar, .slice (some ⟨b, 0, none⟩) x.of.ls.length n, .int .i64 x.of.ct, .bool x.of.tn.over, .int .i64 x.of.tn.cd, .string x.of.tn.tx, .bool x.of.tn.has, .string x.of.tn.nm, .int .i64 x.of.tn.st]) := by
        show M.BlkAt wA Of _
        rw [hwA, hOe]; exact M.blk_new UW [.int .i64 x.of.kd, .int .i64 x.of.to, .int .i64 x.of.fr, .int .i64 x.of.ep, .int .i64 x.of.ed, .string x.of.km.nm, .string x.of.km.tl, .string x.of.km.ar, .slice (some ⟨b, 0, none⟩) x.of.ls.length n, .int .i64 x.of.ct, .bool x.of.tn.over, .int .i64 x.of.tn.cd, .string x.of.tn.tx, .bool x.of.tn.has, .string x.of.tn.nm, .int .i64 x.of.tn.st] 48
       have HRA := hidI (ZRW.below hbA (by omega))
       have HfRA : Hid (M.OpnAt wA (w.heap.size + 1)) := fRW.below hbA (by omega)
       have HYA := hidI (ZYW.below hbA (by omega))
       have HfYA : Hid (M.OpnAt wA X) := fYW.below hbA (by omega)
       have HTA : Hid (∃ a, wA.heap[X]? = some (.cells a 50 (0, 0))) := by
        obtain ⟨a, ha⟩ := HTW.out
        exact ⟨a, (hbA.block X (by omega)).trans ha⟩
       have HOA := hidI (ownsRow_below HOW.out hbA)
       have HqA : Hid (∀ k, (Value.slice a1 1 c1').ownBlock = some k → k < UW.heap.size) := fun k hk => by obtain ⟨_, cur, hc⟩ := own_block HOW.out hk; exact blk_lt hc
       have HBA : Hid (Below w.heap.size w wA) := hBW.trans (hbA.mono (by omega))
       have HAT : Hid (M.LksAt wA.drew (some ⟨b, 0, none⟩) x.of.ls) := M.lks_below (M.lks_below HA.out HBA.out) (Below.refl _ _).drew
       have hOf : Of < wA.heap.size := by omega
       have hOf2 : X < Of := by omega
       rw [← hwA]
       rw [← hOe]
       clear hwA hOe hbA ZXW ZRW fRW ZYW fYW HLW hBW e2 a3 a4 a5 a6 a7 a8 a9 a10 a11 a12 a13 a14 a15 a16 a17 a18 b0
       have d0 : wA.drew.cell? ⟨w.heap.size, 0, none⟩ = some (.int .i64 x.no) := by simpa using HXA.out 0 _ rfl
       have o3 : wA.drew.cell? ⟨Of, 3, none⟩ = some (.int .i64 x.of.ep) := by simpa using HQA.out 3 _ rfl
       have o4 : wA.drew.cell? ⟨Of, 4, none⟩ = some (.int .i64 x.of.ed) := by simpa using HQA.out 4 _ rfl
       have o5 : wA.drew.cell? ⟨Of, 5, none⟩ = some (.string x.of.km.nm) := by simpa using HQA.out 5 _ rfl
       have o6 : wA.drew.cell? ⟨Of, 6, none⟩ = some (.string x.of.km.tl) := by simpa using HQA.out 6 _ rfl
       have o7 : wA.drew.cell? ⟨Of, 7, none⟩ = some (.string x.of.km.ar) := by simpa using HQA.out 7 _ rfl
       have o8 : wA.drew.cell? ⟨Of, 8, none⟩ = some (.slice (some ⟨b, 0, none⟩) x.of.ls.length n) := by simpa using HQA.out 8 _ rfl
       refine wp_region_held_drew (S := (fun u => u.cell? ⟨w.heap.size, 0, none⟩ = some (.int .i64 x.no) ∧ u.cell? ⟨Of, 3, none⟩ = some (.int .i64 x.of.ep) ∧ u.cell? ⟨Of, 4, none⟩ = some (.int .i64 x.of.ed) ∧ u.cell? ⟨Of, 5, none⟩ = some (.string x.of.km.nm) ∧ u.cell? ⟨Of, 6, none⟩ = some (.string x.of.km.tl) ∧ u.cell? ⟨Of, 7, none⟩ = some (.string x.of.km.ar) ∧ u.cell? ⟨Of, 8, none⟩ = some (.slice (some ⟨b, 0, none⟩) x.of.ls.length n))) (by kernel_rfl) ?_ (fun hHeld => ?_)
       · ((try dsimp only); go_keep)
       refine wpAnyH_take (i := 0) (oi := { dst := some 30, op := Op.move (Operand.tmp 4), type := 51, pos := "l8_worker.go:56", after := #[], guard := none }) (v := ?_) rfl (by kernel_rfl) (by kernel_rfl) (by kernel_rfl) (fun _ _ _ h => h) (Or.inl ⟨by rfl, ?_⟩) (by assumption) ?_
       rotate_left
       · intro wq hSw
         (try dsimp only at hSw)
         go_simp
         try with_reducible rfl
       try simp only [Act.put, List.setIfInBounds_toArray, List.set_cons_zero, List.set_cons_succ]
       refine wpAnyH_take (i := 1) (oi := { dst := some 31, op := Op.fieldAddr 50 (Operand.tmp 1) 0, type := 0, pos := "l8_worker.go:56", after := #[], guard := none }) (v := ?_) rfl (by kernel_rfl) (by kernel_rfl) (by kernel_rfl) (fun _ _ _ h => h) (Or.inl ⟨by rfl, ?_⟩) (by assumption) ?_
       rotate_left
       · intro wq hSw
         (try dsimp only at hSw)
         go_simp
         try with_reducible rfl
       try simp only [Act.put, List.setIfInBounds_toArray, List.set_cons_zero, List.set_cons_succ]
       refine wpAnyH_take (i := 2) (oi := { dst := some 32, op := Op.load 3 (Operand.tmp 31), type := 3, pos := "l8_worker.go:56", after := #[{ on := 1, ground := Ground.data }], guard := none }) (v := ?_) rfl (by kernel_rfl) (by kernel_rfl) (by kernel_rfl) (fun _ _ _ h => h) (Or.inl ⟨by rfl, ?_⟩) (by assumption) ?_
       rotate_left
       · intro wq hSw
         (try dsimp only at hSw)
         go_simp
         try with_reducible rfl
       try simp only [Act.put, List.setIfInBounds_toArray, List.set_cons_zero, List.set_cons_succ]
       refine wpAnyH_take (i := 3) (oi := { dst := some 33, op := Op.fieldAddr 48 (Operand.tmp 6) 3, type := 0, pos := "l8_worker.go:56", after := #[], guard := none }) (v := ?_) rfl (by kernel_rfl) (by kernel_rfl) (by kernel_rfl) (fun _ _ _ h => h) (Or.inl ⟨by rfl, ?_⟩) (by assumption) ?_
       rotate_left
       · intro wq hSw
         (try dsimp only at hSw)
         go_simp
         try with_reducible rfl
       try simp only [Act.put, List.setIfInBounds_toArray, List.set_cons_zero, List.set_cons_succ]
       refine wpAnyH_take (i := 4) (oi := { dst := some 34, op := Op.load 3 (Operand.tmp 33), type := 3, pos := "l8_worker.go:56", after := #[{ on := 3, ground := Ground.data }], guard := none }) (v := ?_) rfl (by kernel_rfl) (by kernel_rfl) (by kernel_rfl) (fun _ _ _ h => h) (Or.inl ⟨by rfl, ?_⟩) (by assumption) ?_
       rotate_left
       · intro wq hSw
         (try dsimp only at hSw)
         go_simp
         try with_reducible rfl
       try simp only [Act.put, List.setIfInBounds_toArray, List.set_cons_zero, List.set_cons_succ]
       refine wpAnyH_take (i := 5) (oi := { dst := some 35, op := Op.fieldAddr 48 (Operand.tmp 6) 4, type := 0, pos := "l8_worker.go:56", after := #[], guard := none }) (v := ?_) rfl (by kernel_rfl) (by kernel_rfl) (by kernel_rfl) (fun _ _ _ h => h) (Or.inl ⟨by rfl, ?_⟩) (by assumption) ?_
       rotate_left
       · intro wq hSw
         (try dsimp only at hSw)
         go_simp
         try with_reducible rfl
       try simp only [Act.put, List.setIfInBounds_toArray, List.set_cons_zero, List.set_cons_succ]
       refine wpAnyH_take (i := 6) (oi := { dst := some 36, op := Op.load 3 (Operand.tmp 35), type := 3, pos := "l8_worker.go:56", after := #[{ on := 5, ground := Ground.data }], guard := none }) (v := ?_) rfl (by kernel_rfl) (by kernel_rfl) (by kernel_rfl) (fun _ _ _ h => h) (Or.inl ⟨by rfl, ?_⟩) (by assumption) ?_
       rotate_left
       · intro wq hSw
         (try dsimp only at hSw)
         go_simp
         try with_reducible rfl
       try simp only [Act.put, List.setIfInBounds_toArray, List.set_cons_zero, List.set_cons_succ]
       refine wpAnyH_take (i := 7) (oi := { dst := some 37, op := Op.fieldAddr 48 (Operand.tmp 6) 5, type := 0, pos := "l8_worker.go:56", after := #[], guard := none }) (v := ?_) rfl (by kernel_rfl) (by kernel_rfl) (by kernel_rfl) (fun _ _ _ h => h) (Or.inl ⟨by rfl, ?_⟩) (by assumption) ?_
       rotate_left
       · intro wq hSw
         (try dsimp only at hSw)
         go_simp
         try with_reducible rfl
       try simp only [Act.put, List.setIfInBounds_toArray, List.set_cons_zero, List.set_cons_succ]
       refine wpAnyH_take (i := 8) (oi := { dst := some 38, op := Op.fieldAddr 32 (Operand.tmp 37) 0, type := 0, pos := "l8_worker.go:56", after := #[{ on := 7, ground := Ground.data }], guard := none }) (v := ?_) rfl (by kernel_rfl) (by kernel_rfl) (by kernel_rfl) (fun _ _ _ h => h) (Or.inl ⟨by rfl, ?_⟩) (by assumption) ?_
       rotate_left
       · intro wq hSw
         (try dsimp only at hSw)
         go_simp
         try with_reducible rfl
       try simp only [Act.put, List.setIfInBounds_toArray, List.set_cons_zero, List.set_cons_succ]
       refine wpAnyH_take (i := 9) (oi := { dst := some 39, op := Op.load 9 (Operand.tmp 38), type := 9, pos := "l8_worker.go:56", after := #[{ on := 8, ground := Ground.data }], guard := none }) (v := ?_) rfl (by kernel_rfl) (by kernel_rfl) (by kernel_rfl) (fun _ _ _ h => h) (Or.inl ⟨by rfl, ?_⟩) (by assumption) ?_
       rotate_left
       · intro wq hSw
         (try dsimp only at hSw)
         go_simp
         try with_reducible rfl
       try simp only [Act.put, List.setIfInBounds_toArray, List.set_cons_zero, List.set_cons_succ]
       refine wpAnyH_take (i := 10) (oi := { dst := some 40, op := Op.build 32 #[(0, Operand.tmp 39)], type := 32, pos := "l8_worker.go:56", after := #[{ on := 9, ground := Ground.data }], guard := none }) (v := ?_) rfl (by kernel_rfl) (by kernel_rfl) (by kernel_rfl) (fun _ _ _ h => h) (Or.inl ⟨by rfl, ?_⟩) (by assumption) ?_
       rotate_left
       · intro wq hSw
         (try dsimp only at hSw)
         go_simp
         try with_reducible rfl
       try simp only [Act.put, List.setIfInBounds_toArray, List.set_cons_zero, List.set_cons_succ]
       refine wpAnyH_take (i := 11) (oi := { dst := some 41, op := Op.fieldAddr 48 (Operand.tmp 6) 6, type := 0, pos := "l8_worker.go:56", after := #[], guard := none }) (v := ?_) rfl (by kernel_rfl) (by kernel_rfl) (by kernel_rfl) (fun _ _ _ h => h) (Or.inl ⟨by rfl, ?_⟩) (by assumption) ?_
       rotate_left
       · intro wq hSw
         (try dsimp only at hSw)
         go_simp
         try with_reducible rfl
       try simp only [Act.put, List.setIfInBounds_toArray, List.set_cons_zero, List.set_cons_succ]
       refine wpAnyH_take (i := 12) (oi := { dst := some 42, op := Op.load 34 (Operand.tmp 41), type := 34, pos := "l8_worker.go:56", after := #[{ on := 11, ground := Ground.data }], guard := none }) (v := ?_) rfl (by kernel_rfl) (by kernel_rfl) (by kernel_rfl) (fun _ _ _ h => h) (Or.inl ⟨by rfl, ?_⟩) (by assumption) ?_
       rotate_left
       · intro wq hSw
         (try dsimp only at hSw)
         go_simp
         try with_reducible rfl
       try simp only [Act.put, List.setIfInBounds_toArray, List.set_cons_zero, List.set_cons_succ]
       refine wpAnyH_take (i := 13) (oi := { dst := some 43, op := Op.call { callee := Callee.builtin Builtin.len, args := #[Operand.tmp 42], argTypes := #[34] }, type := 3, pos := "l8_worker.go:56", after := #[{ on := 12, ground := Ground.data }], guard := none }) (v := ?_) rfl (by kernel_rfl) (by kernel_rfl) (by kernel_rfl) (fun _ _ _ h => h) (Or.inl ⟨by rfl, ?_⟩) (by assumption) ?_
       rotate_left
       · intro wq hSw
         (try dsimp only at hSw)
         go_simp
         try with_reducible rfl
       try simp only [Act.put, List.setIfInBounds_toArray, List.set_cons_zero, List.set_cons_succ]
       refine wpAnyH_take (i := 14) (oi := { dst := some 44, op := Op.fieldAddr 48 (Operand.tmp 6) 5, type := 0, pos := "l8_worker.go:56", after := #[], guard := none }) (v := ?_) rfl (by kernel_rfl) (by kernel_rfl) (by kernel_rfl) (fun _ _ _ h => h) (Or.inl ⟨by rfl, ?_⟩) (by assumption) ?_
       rotate_left
       · intro wq hSw
         (try dsimp only at hSw)
         go_simp
         try with_reducible rfl
       try simp only [Act.put, List.setIfInBounds_toArray, List.set_cons_zero, List.set_cons_succ]
       refine wpAnyH_take (i := 15) (oi := { dst := some 45, op := Op.load 32 (Operand.tmp 44), type := 32, pos := "l8_worker.go:56", after := #[{ on := 14, ground := Ground.data }], guard := none }) (v := ?_) rfl (by kernel_rfl) (by kernel_rfl) (by kernel_rfl) (fun _ _ _ h => h) (Or.inl ⟨by rfl, ?_⟩) (by assumption) ?_
       rotate_left
       · intro wq hSw
         (try dsimp only at hSw)
         go_simp
         try with_reducible rfl
       try simp only [Act.put, List.setIfInBounds_toArray, List.set_cons_zero, List.set_cons_succ]
       refine wpAnyH_take (i := 16) (oi := { dst := some 46, op := Op.fieldAddr 48 (Operand.tmp 6) 6, type := 0, pos := "l8_worker.go:56", after := #[], guard := none }) (v := ?_) rfl (by kernel_rfl) (by kernel_rfl) (by kernel_rfl) (fun _ _ _ h => h) (Or.inl ⟨by rfl, ?_⟩) (by assumption) ?_
       rotate_left
       · intro wq hSw
         (try dsimp only at hSw)
         go_simp
         try with_reducible rfl
       try simp only [Act.put, List.setIfInBounds_toArray, List.set_cons_zero, List.set_cons_succ]
       refine wpAnyH_take (i := 17) (oi := { dst := some 47, op := Op.load 34 (Operand.tmp 46), type := 34, pos := "l8_worker.go:56", after := #[{ on := 16, ground := Ground.data }], guard := none }) (v := ?_) rfl (by kernel_rfl) (by kernel_rfl) (by kernel_rfl) (fun _ _ _ h => h) (Or.inl ⟨by rfl, ?_⟩) (by assumption) ?_
       rotate_left
       · intro wq hSw
         (try dsimp only at hSw)
         go_simp
         try with_reducible rfl
       try simp only [Act.put, List.setIfInBounds_toArray, List.set_cons_zero, List.set_cons_succ]
       refine wpAnyH_ready (rs := [18]) (by kernel_rfl) (by simp) ?_
       refine AllReadyH.cons (o := { dst := some 48, op := Op.call { callee := Callee.value (Operand.func 8), args := #[Operand.tmp 45, Operand.tmp 47], argTypes := #[32, 34] }, type := 30, pos := "l8_worker.go:56", after := #[{ on := 15, ground := Ground.data }, { on := 17, ground := Ground.data }], guard := none }) rfl (fun K hK => ?_) AllReadyH.nil
       go_simp
       refine (c8t x.of.km (some ⟨b, 0, none⟩) n x.of.ls wA.drew HX.out.1 HX.out.2.1.1 HX.out.2.1.2 HAT.out HT.out).mono ?_
       rintro e w3 ⟨rfl, hb3⟩
       have HB3 : Hid (Below wA.heap.size wA w3) := (Below.refl _ _).drew.trans hb3
       have hz3 : wA.heap.size ≤ w3.heap.size := HB3.out.size
       have HX3 := hidI (HXA.out.below HB3.out (by omega))
       have HQ3 := hidI (HQA.out.below HB3.out (by omega))
       have HR3 := hidI (HRA.out.below HB3.out (by omega))
       have HfR3 : Hid (M.OpnAt w3 (w.heap.size + 1)) := HfRA.out.below HB3.out (by omega)
       have HY3 := hidI (HYA.out.below HB3.out (by omega))
       have HfY3 : Hid (M.OpnAt w3 X) := HfYA.out.below HB3.out (by omega)
       have HT3 : Hid (∃ a, (w3).heap[X]? = some (.cells a 50 (0, 0))) := by
        obtain ⟨a, ha⟩ := HTA.out
        exact ⟨a, (Below.block HB3.out X (by omega)).trans ha⟩
       have HO3 := hidI (ownsRow_below HOA.out HB3.out)
       have c0 := HX3.out 0 _ rfl
       have co3 := HQ3.out 3 _ rfl
       have co4 := HQ3.out 4 _ rfl
       have co5 := HQ3.out 5 _ rfl
       have co6 := HQ3.out 6 _ rfl
       have co7 := HQ3.out 7 _ rfl
       have co8 := HQ3.out 8 _ rfl
       clear hb3
       go_wp2_with fail
       clear hHeld
       refine hK.out _ _ ?_ (fun hHeld => ?_)
       · ((try dsimp only); go_keep)
       clear hK K
       try simp only [Act.put, List.setIfInBounds_toArray, List.set_cons_zero, List.set_cons_succ]
       refine wpAnyH_take (i := 19) (oi := { dst := some 49, op := Op.build 48 #[(0, Operand.const (Value.int IntKind.i64 2)), (2, Operand.tmp 32), (3, Operand.tmp 34), (4, Operand.tmp 36), (5, Operand.tmp 40), (7, Operand.tmp 43), (8, Operand.tmp 48)], type := 48, pos := "l8_worker.go:56", after := #[{ on := 2, ground := Ground.data }, { on := 4, ground := Ground.data }, { on := 6, ground := Ground.data }, { on := 10, ground := Ground.data }, { on := 13, ground := Ground.data }, { on := 18, ground := Ground.data }], guard := none }) (v := ?_) rfl (by kernel_rfl) (by kernel_rfl) (by kernel_rfl) (fun _ _ _ h => h) (Or.inl ⟨by rfl, ?_⟩) (by assumption) ?_
       rotate_left
       · intro wq hSw
         (try dsimp only at hSw)
         go_simp
         try with_reducible rfl
       try simp only [Act.put, List.setIfInBounds_toArray, List.set_cons_zero, List.set_cons_succ]
       refine wpAnyH_ready (rs := [20]) (by kernel_rfl) (by simp) ?_
       refine AllReadyH.cons (o := { dst := some 50, op := Op.buildSlice 51 1 #[(0, Operand.tmp 49)], type := 51, pos := "l8_worker.go:56", after := #[{ on := 19, ground := Ground.data }], guard := none }) rfl (fun K hK => ?_) AllReadyH.nil
       go_simp
       have hbB : Below w3.heap.size w3 (w3.alloc (.cells #[.int .i64 2, .int .i64 0, .int .i64 x.no, .int .i64 x.of.ep, .int .i64 x.of.ed, .string x.of.km.nm, .string ⟨#[]⟩, .string ⟨#[]⟩, .slice none 0 0, .int .i64 x.of.ls.length, .bool t.over, .int .i64 t.code, .string t.text, .bool t.has, .string t.name, .int .i64 t.steps] 48)) := (Below.refl _ _).alloc (Nat.le_refl _) _
       have HB4 : Hid (Below wA.heap.size wA (w3.alloc (.cells #[.int .i64 2, .int .i64 0, .int .i64 x.no, .int .i64 x.of.ep, .int .i64 x.of.ed, .string x.of.km.nm, .string ⟨#[]⟩, .string ⟨#[]⟩, .slice none 0 0, .int .i64 x.of.ls.length, .bool t.over, .int .i64 t.code, .string t.text, .bool t.has, .string t.name, .int .i64 t.steps] 48))) := HB3.out.alloc hz3 _
       have hz4 : (w3.alloc (.cells #[.int .i64 2, .int .i64 0, .int .i64 x.no, .int .i64 x.of.ep, .int .i64 x.of.ed, .string x.of.km.nm, .string ⟨#[]⟩, .string ⟨#[]⟩, .slice none 0 0, .int .i64 x.of.ls.length, .bool t.over, .int .i64 t.code, .string t.text, .bool t.has, .string t.name, .int .i64 t.steps] 48)).heap.size = w3.heap.size + 1 := by simp
       have HX4 := hidI (HX3.out.below hbB (by omega))
       have HQ4 := hidI (HQ3.out.below hbB (by omega))
       have HR4 := hidI (HR3.out.below hbB (by omega))
       have HfR4 := hidI (HfR3.out.below hbB (by omega))
       have HY4 := hidI (HY3.out.below hbB (by omega))
       have HfY4 := hidI (HfY3.out.below hbB (by omega))
       have HT4 : Hid (∃ a, ((w3.alloc (.cells #[.int .i64 2, .int .i64 0, .int .i64 x.no, .int .i64 x.of.ep, .int .i64 x.of.ed, .string x.of.km.nm, .string ⟨#[]⟩, .string ⟨#[]⟩, .slice none 0 0, .int .i64 x.of.ls.length, .bool t.over, .int .i64 t.code, .string t.text, .bool t.has, .string t.name, .int .i64 t.steps] 48))).heap[X]? = some (.cells a 50 (0, 0))) := by
        obtain ⟨a, ha⟩ := HT3.out
        exact ⟨a, (Below.block hbB X (by omega)).trans ha⟩
       have HO4 := hidI (ownsRow_below HO3.out hbB)
       have HR16 : Hid (∀ j u, ([.int .i64 2, .int .i64 0, .int .i64 x.no, .int .i64 x.of.ep, .int .i64 x.of.ed, .string x.of.km.nm, .string ⟨#[]⟩, .string ⟨#[]⟩, .slice none 0 0, .int .i64 x.of.ls.length, .bool t.over, .int .i64 t.code, .string t.text, .bool t.has, .string t.name, .int .i64 t.steps] : List Value)[j]? = some u → (w3.alloc (.cells #[.int .i64 2, .int .i64 0, .int .i64 x.no, .int .i64 x.of.ep, .int .i64 x.of.ed, .string x.of.km.nm, .string ⟨#[]⟩, .string ⟨#[]⟩, .slice none 0 0, .int .i64 x.of.ls.length, .bool t.over, .int .i64 t.code, .string t.text, .bool t.has, .string t.name, .int .i64 t.steps] 48)).cell? ((⟨w3.heap.size, 0, none⟩ : Addr).add j) = some u) := row16n rfl [.int .i64 2, .int .i64 0, .int .i64 x.no, .int .i64 x.of.ep, .int .i64 x.of.ed, .string x.of.km.nm, .string ⟨#[]⟩, .string ⟨#[]⟩, .slice none 0 0, .int .i64 x.of.ls.length, .bool t.over, .int .i64 t.code, .string t.text, .bool t.has, .string t.name, .int .i64 t.steps] 48
       have e0 := HX4.out 0 _ rfl
       have eo3 := HQ4.out 3 _ rfl
       have eo4 := HQ4.out 4 _ rfl
       have eo5 := HQ4.out 5 _ rfl
       have eo6 := HQ4.out 6 _ rfl
       have eo7 := HQ4.out 7 _ rfl
       have eo8 := HQ4.out 8 _ rfl
       clear hbB
       clear hHeld
       refine hK.out _ _ ?_ (fun hHeld => ?_)
       · ((try dsimp only); go_keep)
       clear hK K
       try simp only [Act.put, List.setIfInBounds_toArray, List.set_cons_zero, List.set_cons_succ]
       generalize (w3.alloc (.cells #[.int .i64 2, .int .i64 0, .int .i64 x.no, .int .i64 x.of.ep, .int .i64 x.of.ed, .string x.of.km.nm, .string ⟨#[]⟩, .string ⟨#[]⟩, .slice none 0 0, .int .i64 x.of.ls.length, .bool t.over, .int .i64 t.code, .string t.text, .bool t.has, .string t.name, .int .i64 t.steps] 48)) = w4 at *
       refine wpAnyH_ready (rs := [21]) (by kernel_rfl) (by simp) ?_
       refine AllReadyH.cons (o := { dst := some 51, op := Op.call { callee := Callee.builtin Builtin.append, args := #[Operand.tmp 30, Operand.tmp 50], argTypes := #[51, 51] }, type := 51, pos := "l8_worker.go:56", after := #[{ on := 0, ground := Ground.data }, { on := 20, ground := Ground.data }, { on := 18, ground := Ground.chain }], guard := none }) rfl (fun K hK => ?_) AllReadyH.nil
       refine M.step_app rfl (.tmp 30) (.tmp 50) 51 rfl (w.heap.size + 2) 48 i0 (.agg #[.int .i64 0, .int .i64 0, .int .i64 0, .int .i64 0, .int .i64 0, .string ⟨#[]⟩, .string ⟨#[]⟩, .string ⟨#[]⟩, .slice none 0 0, .int .i64 0, .bool false, .int .i64 0, .string ⟨#[]⟩, .bool false, .string ⟨#[]⟩, .int .i64 0]) 16 184 Tryz.underlying51 hi hz0' hz1' hz2' rfl (by decide) _ _ _ rfl HO4.out ⟨w3.heap.size, 0, none⟩ 1 1 [.int .i64 2, .int .i64 0, .int .i64 x.no, .int .i64 x.of.ep, .int .i64 x.of.ed, .string x.of.km.nm, .string ⟨#[]⟩, .string ⟨#[]⟩, .slice none 0 0, .int .i64 x.of.ls.length, .bool t.over, .int .i64 t.code, .string t.text, .bool t.has, .string t.name, .int .i64 t.steps] rfl rfl HR16.out (by simp [Value.oneCell']) (by unfold maxLen; omega) (by omega) (by omega) ?_
       intro v' w5 hown5 hgrow
       have hrow : ∀ k, (Value.slice a1 1 c1').ownBlock = some k → w.heap.size + 2 ≤ k ∧ k ≠ X ∧ k ≠ Of := fun k hk => by
        obtain ⟨h1, cur, hc⟩ := own_block HO4.out hk
        obtain ⟨a, ha⟩ := HT4.out
        exact ⟨h1, blk_ne hc ha (by decide), by have := HqA.out k hk; have := HOE'.out; omega⟩
       have hbl : ∀ k, k < w4.heap.size → (k < w.heap.size + 2 ∨ k = X ∨ k = Of) → w5.heap[k]? = w4.heap[k]? := fun k hk hor => hgrow.block k hk (fun e => by obtain ⟨h1, h2, h3⟩ := hrow k e.symm; omega)
       have HB5 : Hid (Below w.heap.size w w5) := (HBA.out.trans (HB4.out.mono (by omega))).grown hgrow (by omega) (fun k hk => by have := (hrow k hk).1; omega)
       have HX5 : Hid (M.BlkAt w5 w.heap.size [.int .i64 x.no, .bool x.up, .bool x.has, .int .i64 x.of.kd, .int .i64 x.of.to, .int .i64 x.of.fr, .int .i64 x.of.ep, .int .i64 x.of.ed, .string x.of.km.nm, .string x.of.km.tl, .string x.of.km.ar, .slice (some ⟨b, 0, none⟩) x.of.ls.length n, .int .i64 x.of.ct, .bool x.of.tn.over, .int .i64 x.of.tn.cd, .string x.of.tn.tx, .bool x.of.tn.has, .string x.of.tn.nm, .int .i64 x.of.tn.st]) := fun j v e => (World.cell?_of_block (a := ⟨w.heap.size, j, none⟩) (hbl w.heap.size (by omega) (.inl (by omega)))).trans (HX4.out j v e)
       have HQ5 : Hid (M.BlkAt w5 Of [.int .i64 x.of.kd, .int .i64 x.of.to, .int .i64 x.of.fr, .int .i64 x.of.ep, .int .i64 x.of.ed, .string x.of.km.nm, .string x.of.km.tl, .string x.of.km.ar, .slice (some ⟨b, 0, none⟩) x.of.ls.length n, .int .i64 x.of.ct, .bool x.of.tn.over, .int .i64 x.of.tn.cd, .string x.of.tn.tx, .bool x.of.tn.has, .string x.of.tn.nm, .int .i64 x.of.tn.st]) := fun j v e => (World.cell?_of_block (a := ⟨Of, j, none⟩) (hbl Of (by omega) (.inr (.inr rfl)))).trans (HQ4.out j v e)
       have HR5 : Hid (M.BlkAt w5 (w.heap.size + 1) [.int .i64 0, .bool false, .bool false, .int .i64 0, .int .i64 0, .int .i64 0, .int .i64 0, .int .i64 0, .string ⟨#[]⟩, .string ⟨#[]⟩, .string ⟨#[]⟩, .slice none 0 0, .int .i64 0, .bool false, .int .i64 0, .string ⟨#[]⟩, .bool false, .string ⟨#[]⟩, .int .i64 0]) := fun j v e => (World.cell?_of_block (a := ⟨w.heap.size + 1, j, none⟩) (hbl (w.heap.size + 1) (by omega) (.inl (by omega)))).trans (HR4.out j v e)
       have HfR5 : Hid (M.OpnAt w5 (w.heap.size + 1)) := fun j => (World.frozen?_of_block (a := ⟨w.heap.size + 1, j, none⟩) (hbl (w.heap.size + 1) (by omega) (.inl (by omega)))).trans (HfR4.out j)
       have HY5 : Hid (M.BlkAt w5 X [.int .i64 x.no, .bool x.up, .bool x.has, .int .i64 x.of.kd, .int .i64 x.of.to, .int .i64 x.of.fr, .int .i64 x.of.ep, .int .i64 x.of.ed, .string x.of.km.nm, .string x.of.km.tl, .string x.of.km.ar, .slice ao x.of.ls.length c, .int .i64 x.of.ct, .bool x.of.tn.over, .int .i64 x.of.tn.cd, .string x.of.tn.tx, .bool x.of.tn.has, .string x.of.tn.nm, .int .i64 x.of.tn.st]) := fun j v e => (World.cell?_of_block (a := ⟨X, j, none⟩) (hbl X (by omega) (.inr (.inl rfl)))).trans (HY4.out j v e)
       have HfY5 : Hid (M.OpnAt w5 X) := fun j => (World.frozen?_of_block (a := ⟨X, j, none⟩) (hbl X (by omega) (.inr (.inl rfl)))).trans (HfY4.out j)
       have HTX5 : Hid (∃ a, w5.heap[X]? = some (.cells a 50 (0, 0))) := by
        obtain ⟨a, ha⟩ := HT4.out
        exact ⟨a, (hbl X (by omega) (.inr (.inl rfl))).trans ha⟩
       have hz5 : w4.heap.size ≤ w5.heap.size := hgrow.size
       obtain ⟨a5, c5, rfl⟩ := row_formN hown5
       have HO5 := hidI hown5
       have g0 := HX5.out 0 _ rfl
       have go3 := HQ5.out 3 _ rfl
       have go4 := HQ5.out 4 _ rfl
       have go5 := HQ5.out 5 _ rfl
       have go6 := HQ5.out 6 _ rfl
       have go7 := HQ5.out 7 _ rfl
       have go8 := HQ5.out 8 _ rfl
       clear hgrow hown5 hbl hrow
       clear hHeld
       refine hK.out _ _ ?_ (fun hHeld => ?_)
       · ((try dsimp only); go_keep)
       clear hK K
       try simp only [Act.put, List.setIfInBounds_toArray, List.set_cons_zero, List.set_cons_succ]
       refine wpAnyH_take (i := 22) (oi := { dst := some 4, op := Op.assign (Operand.tmp 51), type := 51, pos := "l8_worker.go:56", after := #[{ on := 21, ground := Ground.data }, { on := 21, ground := Ground.chain }, { on := 0, ground := Ground.phase }, { on := 1, ground := Ground.phase }, { on := 2, ground := Ground.phase }, { on := 3, ground := Ground.phase }, { on := 4, ground := Ground.phase }, { on := 5, ground := Ground.phase }, { on := 6, ground := Ground.phase }, { on := 7, ground := Ground.phase }, { on := 8, ground := Ground.phase }, { on := 9, ground := Ground.phase }, { on := 10, ground := Ground.phase }, { on := 11, ground := Ground.phase }, { on := 12, ground := Ground.phase }, { on := 13, ground := Ground.phase }, { on := 14, ground := Ground.phase }, { on := 15, ground := Ground.phase }, { on := 16, ground := Ground.phase }, { on := 17, ground := Ground.phase }, { on := 18, ground := Ground.phase }, { on := 19, ground := Ground.phase }, { on := 20, ground := Ground.phase }, { on := 21, ground := Ground.phase }], guard := none }) (v := ?_) rfl (by kernel_rfl) (by kernel_rfl) (by kernel_rfl) (fun _ _ _ h => h) (Or.inl ⟨by rfl, ?_⟩) (by assumption) ?_
       rotate_left
       · intro wq hSw
         (try dsimp only at hSw)
         go_simp
         try with_reducible rfl
       try simp only [Act.put, List.setIfInBounds_toArray, List.set_cons_zero, List.set_cons_succ]
       refine wpAnyH_done (by kernel_rfl) ?_ _
       clear hHeld
       try clear d0
       try clear o3
       try clear o4
       try clear o5
       try clear o6
       try clear o7
       try clear o8
       try clear c0
       try clear co3
       try clear co4
       try clear co5
       try clear co6
       try clear co7
       try clear co8
       try clear e0
       try clear eo3
       try clear eo4
       try clear eo5
       try clear eo6
       try clear eo7
       try clear eo8
       try clear g0
       try clear go3
       try clear go4
       try clear go5
       try clear go6
       try clear go7
       try clear go8
       try clear HXA
       try clear HQA
       try clear HRA
       try clear HfRA
       try clear HYA
       try clear HfYA
       try clear HTA
       try clear HOA
       try clear HX3
       try clear HQ3
       try clear HR3
       try clear HfR3
       try clear HY3
       try clear HfY3
       try clear HT3
       try clear HO3
       try clear HX4
       try clear HQ4
       try clear HR4
       try clear HfR4
       try clear HY4
       try clear HfY4
       try clear HT4
       try clear HO4
       try clear HqA
       try clear HAT
       try clear HB3
       try clear HB4
       try clear HR16
       try clear HX5
       try clear HQ5
       try clear HWA
       try clear HOW
       try clear HTW
       try clear HTX
       try clear HXA
       try clear HQA
       have k2 := HY5.out 2 _ rfl
       have kf2 := HfY5.out 2
       have Z6 : M.BlkAt (w5.setCell ⟨X, 2, none⟩ (.bool false)) X [.int .i64 x.no, .bool x.up, .bool false, .int .i64 x.of.kd, .int .i64 x.of.to, .int .i64 x.of.fr, .int .i64 x.of.ep, .int .i64 x.of.ed, .string x.of.km.nm, .string x.of.km.tl, .string x.of.km.ar, .slice ao x.of.ls.length c, .int .i64 x.of.ct, .bool x.of.tn.over, .int .i64 x.of.tn.cd, .string x.of.tn.tx, .bool x.of.tn.has, .string x.of.tn.nm, .int .i64 x.of.tn.st] := HY5.out.set 2 (.bool false) (by simp)
       have f6 : M.OpnAt (w5.setCell ⟨X, 2, none⟩ (.bool false)) X := HfY5.out.set _ _
       have hSome6 : ∀ i, i < ([.int .i64 0, .int .i64 0, .int .i64 0, .int .i64 0, .int .i64 0, .string ⟨#[]⟩, .string ⟨#[]⟩, .string ⟨#[]⟩, .slice none 0 0, .int .i64 0, .bool false, .int .i64 0, .string ⟨#[]⟩, .bool false, .string ⟨#[]⟩, .int .i64 0] : List Value).length → ((w5.setCell ⟨X, 2, none⟩ (.bool false)).cell? ⟨X, 3 + i, none⟩).isSome = true := fun i hi => by
        have hz : 3 + i < ([.int .i64 x.no, .bool x.up, .bool false, .int .i64 x.of.kd, .int .i64 x.of.to, .int .i64 x.of.fr, .int .i64 x.of.ep, .int .i64 x.of.ed, .string x.of.km.nm, .string x.of.km.tl, .string x.of.km.ar, .slice ao x.of.ls.length c, .int .i64 x.of.ct, .bool x.of.tn.over, .int .i64 x.of.tn.cd, .string x.of.tn.tx, .bool x.of.tn.has, .string x.of.tn.nm, .int .i64 x.of.tn.st] : List Value).length := by simp at hi; simp; omega
        rw [Z6 (3 + i) _ (List.getElem?_eq_getElem hz)]
        rfl
       have Z7 : M.BlkAt (M.fill (w5.setCell ⟨X, 2, none⟩ (.bool false)) X 3 [.int .i64 0, .int .i64 0, .int .i64 0, .int .i64 0, .int .i64 0, .string ⟨#[]⟩, .string ⟨#[]⟩, .string ⟨#[]⟩, .slice none 0 0, .int .i64 0, .bool false, .int .i64 0, .string ⟨#[]⟩, .bool false, .string ⟨#[]⟩, .int .i64 0]) X [.int .i64 x.no, .bool x.up, .bool false, .int .i64 0, .int .i64 0, .int .i64 0, .int .i64 0, .int .i64 0, .string ⟨#[]⟩, .string ⟨#[]⟩, .string ⟨#[]⟩, .slice none 0 0, .int .i64 0, .bool false, .int .i64 0, .string ⟨#[]⟩, .bool false, .string ⟨#[]⟩, .int .i64 0] := M.BlkAt.fill [.int .i64 0, .int .i64 0, .int .i64 0, .int .i64 0, .int .i64 0, .string ⟨#[]⟩, .string ⟨#[]⟩, .string ⟨#[]⟩, .slice none 0 0, .int .i64 0, .bool false, .int .i64 0, .string ⟨#[]⟩, .bool false, .string ⟨#[]⟩, .int .i64 0] [.int .i64 x.no, .bool x.up, .bool false] [.int .i64 x.of.kd, .int .i64 x.of.to, .int .i64 x.of.fr, .int .i64 x.of.ep, .int .i64 x.of.ed, .string x.of.km.nm, .string x.of.km.tl, .string x.of.km.ar, .slice ao x.of.ls.length c, .int .i64 x.of.ct, .bool x.of.tn.over, .int .i64 x.of.tn.cd, .string x.of.tn.tx, .bool x.of.tn.has, .string x.of.tn.nm, .int .i64 x.of.tn.st] [] 3 Z6 rfl rfl
       have R7 : M.BlkAt (M.fill (w5.setCell ⟨X, 2, none⟩ (.bool false)) X 3 [.int .i64 0, .int .i64 0, .int .i64 0, .int .i64 0, .int .i64 0, .string ⟨#[]⟩, .string ⟨#[]⟩, .string ⟨#[]⟩, .slice none 0 0, .int .i64 0, .bool false, .int .i64 0, .string ⟨#[]⟩, .bool false, .string ⟨#[]⟩, .int .i64 0]) (w.heap.size + 1) [.int .i64 0, .bool false, .bool false, .int .i64 0, .int .i64 0, .int .i64 0, .int .i64 0, .int .i64 0, .string ⟨#[]⟩, .string ⟨#[]⟩, .string ⟨#[]⟩, .slice none 0 0, .int .i64 0, .bool false, .int .i64 0, .string ⟨#[]⟩, .bool false, .string ⟨#[]⟩, .int .i64 0] := M.BlkAt.fillO (by omega) _ 3 (HR5.out.other ⟨X, 2, none⟩ _ (by show X ≠ w.heap.size + 1; omega))
       have fR7 : M.OpnAt (M.fill (w5.setCell ⟨X, 2, none⟩ (.bool false)) X 3 [.int .i64 0, .int .i64 0, .int .i64 0, .int .i64 0, .int .i64 0, .string ⟨#[]⟩, .string ⟨#[]⟩, .string ⟨#[]⟩, .slice none 0 0, .int .i64 0, .bool false, .int .i64 0, .string ⟨#[]⟩, .bool false, .string ⟨#[]⟩, .int .i64 0]) (w.heap.size + 1) := M.OpnAt.fill _ _ (HfR5.out.set _ _)
       have hB7 : Below w.heap.size w (M.fill (w5.setCell ⟨X, 2, none⟩ (.bool false)) X 3 [.int .i64 0, .int .i64 0, .int .i64 0, .int .i64 0, .int .i64 0, .string ⟨#[]⟩, .string ⟨#[]⟩, .string ⟨#[]⟩, .slice none 0 0, .int .i64 0, .bool false, .int .i64 0, .string ⟨#[]⟩, .bool false, .string ⟨#[]⟩, .int .i64 0]) := M.below_fill (by omega) _ _ (HB5.out.setCell (by show w.heap.size ≤ X; omega) _)
       have hk7 : ∀ k, k < w5.heap.size → k ≠ X → (M.fill (w5.setCell ⟨X, 2, none⟩ (.bool false)) X 3 [.int .i64 0, .int .i64 0, .int .i64 0, .int .i64 0, .int .i64 0, .string ⟨#[]⟩, .string ⟨#[]⟩, .string ⟨#[]⟩, .slice none 0 0, .int .i64 0, .bool false, .int .i64 0, .string ⟨#[]⟩, .bool false, .string ⟨#[]⟩, .int .i64 0]).heap[k]? = w5.heap[k]? := fun k hk h1 => by
        rw [(M.but_fill _ _ (M.But.refl X (w5.setCell ⟨X, 2, none⟩ (.bool false)))).block k (by simpa using hk) h1]
        exact heap_setCell_other _ _ _ _ h1
       have HO7 : Hid ((M.fill (w5.setCell ⟨X, 2, none⟩ (.bool false)) X 3 [.int .i64 0, .int .i64 0, .int .i64 0, .int .i64 0, .int .i64 0, .string ⟨#[]⟩, .string ⟨#[]⟩, .string ⟨#[]⟩, .slice none 0 0, .int .i64 0, .bool false, .int .i64 0, .string ⟨#[]⟩, .bool false, .string ⟨#[]⟩, .int .i64 0]).ownsRow (w.heap.size + 2) 48 16 (.slice a5 2 c5) 2 ([.int .i64 3, .int .i64 0, .int .i64 x.no, .int .i64 0, .int .i64 0, .string ⟨#[]⟩, .string ⟨#[]⟩, .string ⟨#[]⟩, .slice none 0 0, .int .i64 0, .bool false, .int .i64 0, .string ⟨#[]⟩, .bool false, .string ⟨#[]⟩, .int .i64 0] ++ [.int .i64 2, .int .i64 0, .int .i64 x.no, .int .i64 x.of.ep, .int .i64 x.of.ed, .string x.of.km.nm, .string ⟨#[]⟩, .string ⟨#[]⟩, .slice none 0 0, .int .i64 x.of.ls.length, .bool t.over, .int .i64 t.code, .string t.text, .bool t.has, .string t.name, .int .i64 t.steps])) := ownsRow_keep HO5.out fun q hq => by
        obtain ⟨hq1, cur, hc⟩ := own_block HO5.out hq
        obtain ⟨a, ha⟩ := HTX5.out
        exact hk7 q (blk_lt hc) (blk_ne hc ha (by decide))
       have hmark : True := trivial
       go_wp2_with (refine M.wpList_store_blk rfl 48 (.tmp 54) (.tmp 53) rfl X 3 rfl [.int .i64 0, .int .i64 0, .int .i64 0, .int .i64 0, .int .i64 0, .string ⟨#[]⟩, .string ⟨#[]⟩, .string ⟨#[]⟩, .slice none 0 0, .int .i64 0, .bool false, .int .i64 0, .string ⟨#[]⟩, .bool false, .string ⟨#[]⟩, .int .i64 0] rfl hSome6 f6 (by simp [Value.oneCell']) (by kernel_rfl) rfl ?_; revert hmark)
       try intro _
       clear hSome6 f6 Z6 hk7 k2 kf2 HY5 HfY5 HR5 HfR5 HO5 HB5 HTX5
       generalize (M.fill (w5.setCell ⟨X, 2, none⟩ (.bool false)) X 3 [.int .i64 0, .int .i64 0, .int .i64 0, .int .i64 0, .int .i64 0, .string ⟨#[]⟩, .string ⟨#[]⟩, .string ⟨#[]⟩, .slice none 0 0, .int .i64 0, .bool false, .int .i64 0, .string ⟨#[]⟩, .bool false, .string ⟨#[]⟩, .int .i64 0]) = W7 at *
       have hSome7 : ∀ i, i < ([.int .i64 x.no, .bool x.up, .bool false, .int .i64 0, .int .i64 0, .int .i64 0, .int .i64 0, .int .i64 0, .string ⟨#[]⟩, .string ⟨#[]⟩, .string ⟨#[]⟩, .slice none 0 0, .int .i64 0, .bool false, .int .i64 0, .string ⟨#[]⟩, .bool false, .string ⟨#[]⟩, .int .i64 0] : List Value).length → (W7.cell? ⟨w.heap.size + 1, 0 + i, none⟩).isSome = true := fun i hi => by
        have hz : i < ([.int .i64 0, .bool false, .bool false, .int .i64 0, .int .i64 0, .int .i64 0, .int .i64 0, .int .i64 0, .string ⟨#[]⟩, .string ⟨#[]⟩, .string ⟨#[]⟩, .slice none 0 0, .int .i64 0, .bool false, .int .i64 0, .string ⟨#[]⟩, .bool false, .string ⟨#[]⟩, .int .i64 0] : List Value).length := hi
        rw [Nat.zero_add, R7 i _ (List.getElem?_eq_getElem hz)]
        rfl
       go_wp2_with (first | refine M.wpList_load_blk rfl 50 (.tmp 5) rfl X rfl [.int .i64 x.no, .bool x.up, .bool false, .int .i64 0, .int .i64 0, .int .i64 0, .int .i64 0, .int .i64 0, .string ⟨#[]⟩, .string ⟨#[]⟩, .string ⟨#[]⟩, .slice none 0 0, .int .i64 0, .bool false, .int .i64 0, .string ⟨#[]⟩, .bool false, .string ⟨#[]⟩, .int .i64 0] _ Z7 Tryz.underlying50 rfl (by kernel_rfl) ?_ | refine M.wpList_store_blk rfl 50 (.tmp 2) (.tmp 55) rfl (w.heap.size + 1) 0 rfl [.int .i64 x.no, .bool x.up, .bool false, .int .i64 0, .int .i64 0, .int .i64 0, .int .i64 0, .int .i64 0, .string ⟨#[]⟩, .string ⟨#[]⟩, .string ⟨#[]⟩, .slice none 0 0, .int .i64 0, .bool false, .int .i64 0, .string ⟨#[]⟩, .bool false, .string ⟨#[]⟩, .int .i64 0] rfl hSome7 fR7 (by simp [Value.oneCell']) (by kernel_rfl) rfl ?_)
       have F : M.BlkAt (M.fill W7 (w.heap.size + 1) 0 [.int .i64 x.no, .bool x.up, .bool false, .int .i64 0, .int .i64 0, .int .i64 0, .int .i64 0, .int .i64 0, .string ⟨#[]⟩, .string ⟨#[]⟩, .string ⟨#[]⟩, .slice none 0 0, .int .i64 0, .bool false, .int .i64 0, .string ⟨#[]⟩, .bool false, .string ⟨#[]⟩, .int .i64 0]) (w.heap.size + 1) [.int .i64 x.no, .bool x.up, .bool false, .int .i64 0, .int .i64 0, .int .i64 0, .int .i64 0, .int .i64 0, .string ⟨#[]⟩, .string ⟨#[]⟩, .string ⟨#[]⟩, .slice none 0 0, .int .i64 0, .bool false, .int .i64 0, .string ⟨#[]⟩, .bool false, .string ⟨#[]⟩, .int .i64 0] := R7.fill0 rfl
       have hBE : Below w.heap.size w (M.fill W7 (w.heap.size + 1) 0 [.int .i64 x.no, .bool x.up, .bool false, .int .i64 0, .int .i64 0, .int .i64 0, .int .i64 0, .int .i64 0, .string ⟨#[]⟩, .string ⟨#[]⟩, .string ⟨#[]⟩, .slice none 0 0, .int .i64 0, .bool false, .int .i64 0, .string ⟨#[]⟩, .bool false, .string ⟨#[]⟩, .int .i64 0]) := M.below_fill (by omega) _ _ hB7
       have HOF : Hid ((M.fill W7 (w.heap.size + 1) 0 [.int .i64 x.no, .bool x.up, .bool false, .int .i64 0, .int .i64 0, .int .i64 0, .int .i64 0, .int .i64 0, .string ⟨#[]⟩, .string ⟨#[]⟩, .string ⟨#[]⟩, .slice none 0 0, .int .i64 0, .bool false, .int .i64 0, .string ⟨#[]⟩, .bool false, .string ⟨#[]⟩, .int .i64 0]).ownsRow w.heap.size 48 16 (.slice a5 2 c5) 2 ([.int .i64 3, .int .i64 0, .int .i64 x.no, .int .i64 0, .int .i64 0, .string ⟨#[]⟩, .string ⟨#[]⟩, .string ⟨#[]⟩, .slice none 0 0, .int .i64 0, .bool false, .int .i64 0, .string ⟨#[]⟩, .bool false, .string ⟨#[]⟩, .int .i64 0] ++ [.int .i64 2, .int .i64 0, .int .i64 x.no, .int .i64 x.of.ep, .int .i64 x.of.ed, .string x.of.km.nm, .string ⟨#[]⟩, .string ⟨#[]⟩, .slice none 0 0, .int .i64 x.of.ls.length, .bool t.over, .int .i64 t.code, .string t.text, .bool t.has, .string t.name, .int .i64 t.steps])) := owns_mono (ownsRow_keep HO7.out fun q hq => by
        obtain ⟨hq1, cur, hc⟩ := own_block HO7.out hq
        exact (M.but_fill _ _ (M.But.refl (w.heap.size + 1) W7)).block q (blk_lt hc) (by omega)) (by omega)
       generalize (M.fill W7 (w.heap.size + 1) 0 [.int .i64 x.no, .bool x.up, .bool false, .int .i64 0, .int .i64 0, .int .i64 0, .int .i64 0, .int .i64 0, .string ⟨#[]⟩, .string ⟨#[]⟩, .string ⟨#[]⟩, .slice none 0 0, .int .i64 0, .bool false, .int .i64 0, .string ⟨#[]⟩, .bool false, .string ⟨#[]⟩, .int .i64 0]) = E at *
       refine bodyPost_ret (v := .tuple #[.agg #[.int .i64 x.no, .bool x.up, .bool false, .int .i64 0, .int .i64 0, .int .i64 0, .int .i64 0, .int .i64 0, .string ⟨#[]⟩, .string ⟨#[]⟩, .string ⟨#[]⟩, .slice none 0 0, .int .i64 0, .bool false, .int .i64 0, .string ⟨#[]⟩, .bool false, .string ⟨#[]⟩, .int .i64 0], .slice a5 2 c5]) (results_blk2 (P := Tryz.prog) (ty := 50) rfl _ E (w.heap.size + 1) [.int .i64 x.no, .bool x.up, .bool false, .int .i64 0, .int .i64 0, .int .i64 0, .int .i64 0, .int .i64 0, .string ⟨#[]⟩, .string ⟨#[]⟩, .string ⟨#[]⟩, .slice none 0 0, .int .i64 0, .bool false, .int .i64 0, .string ⟨#[]⟩, .bool false, .string ⟨#[]⟩, .int .i64 0] _ _ rfl rfl F Tryz.underlying50 rfl (by kernel_rfl)) rfl ⟨⟨⟨x.no, x.up, false, M.g16z⟩, 2, _, none, 0, _, rfl, .inr (.inr (.inr ⟨hK.out, HUP.out, HHA.out, rfl, rfl, rfl⟩)), ⟨.inl rfl, .inl rfl⟩, HOF.out⟩, hBE⟩
     · have HHA : Hid (x.has = false) := hha
       have HTR : Hid (TickR x t x 1 [.int .i64 3, .int .i64 0, .int .i64 x.no, .int .i64 0, .int .i64 0, .string ⟨#[]⟩, .string ⟨#[]⟩, .string ⟨#[]⟩, .slice none 0 0, .int .i64 0, .bool false, .int .i64 0, .string ⟨#[]⟩, .bool false, .string ⟨#[]⟩, .int .i64 0]) := .inr (.inr (.inl ⟨hK.out, HUP.out, hha, rfl, rfl, rfl⟩))
       clear hha
       go_wp2_with (first | (at_builtin; refine wpList_append_own _ rfl _ _ 51 rfl (w.heap.size + 2) 48 i0 (.agg #[.int .i64 0, .int .i64 0, .int .i64 0, .int .i64 0, .int .i64 0, .string ⟨#[]⟩, .string ⟨#[]⟩, .string ⟨#[]⟩, .slice none 0 0, .int .i64 0, .bool false, .int .i64 0, .string ⟨#[]⟩, .bool false, .string ⟨#[]⟩, .int .i64 0]) 16 184 Tryz.underlying51 hi hz0' hz1' hz2' rfl (by decide) _ _ _ rfl (hO.alloc _) ⟨X + 1, 0, none⟩ 1 1 [.int .i64 3, .int .i64 0, .int .i64 x.no, .int .i64 0, .int .i64 0, .string ⟨#[]⟩, .string ⟨#[]⟩, .string ⟨#[]⟩, .slice none 0 0, .int .i64 0, .bool false, .int .i64 0, .string ⟨#[]⟩, .bool false, .string ⟨#[]⟩, .int .i64 0] rfl rfl (row16n (by omega) [.int .i64 3, .int .i64 0, .int .i64 x.no, .int .i64 0, .int .i64 0, .string ⟨#[]⟩, .string ⟨#[]⟩, .string ⟨#[]⟩, .slice none 0 0, .int .i64 0, .bool false, .int .i64 0, .string ⟨#[]⟩, .bool false, .string ⟨#[]⟩, .int .i64 0] 48) (by simp [Value.oneCell']) (by unfold maxLen; omega) (by omega) (by simp; omega) ?_; intro v' UW hown hgrow _; have hbt : M.But (w.heap.size + 2) U UW := ⟨hgrow.os, hgrow.tape, hgrow.output, Nat.le_trans (by simp) hgrow.size, fun k hk hne => (hgrow.block k (by simp; omega) (fun e => by have e' : some k = some (w.heap.size + 2) := e; injection e' with e'; exact hne e')).trans (Lib.alloc_old U _ k hk)⟩; have ZXW := blk_but ZXU hbt (by omega) (by omega); have ZRW := blk_but ZRU hbt (by omega) (by omega); have fRW := opn_but fRU hbt (by omega) (by omega); have ZYW := blk_but ZYU hbt (by omega) (by omega); have fYW := opn_but fYU hbt (by omega) (by omega); have HLW : Hid (M.LkOwn UW w1.heap.size ao x.of.ls) := lkown_but HLU.out hbt (by omega); have hBW : Below w.heap.size w UW := hBU.trans (hbt.below (by omega) (by omega)); obtain ⟨a1, c1', rfl⟩ := row_formN hown; have HOW : Hid (UW.ownsRow (w.heap.size + 2) 48 16 (.slice a1 1 c1') 1 [.int .i64 3, .int .i64 0, .int .i64 x.no, .int .i64 0, .int .i64 0, .string ⟨#[]⟩, .string ⟨#[]⟩, .string ⟨#[]⟩, .slice none 0 0, .int .i64 0, .bool false, .int .i64 0, .string ⟨#[]⟩, .bool false, .string ⟨#[]⟩, .int .i64 0]) := hown; have hzW : U.heap.size ≤ UW.heap.size := hbt.size; have e2 := ZXW 2 _ rfl; rw [HHA.out] at e2; have hSome : ∀ i, i < ([.int .i64 x.no, .bool x.up, .bool x.has, .int .i64 x.of.kd, .int .i64 x.of.to, .int .i64 x.of.fr, .int .i64 x.of.ep, .int .i64 x.of.ed, .string x.of.km.nm, .string x.of.km.tl, .string x.of.km.ar, .slice ao x.of.ls.length c, .int .i64 x.of.ct, .bool x.of.tn.over, .int .i64 x.of.tn.cd, .string x.of.tn.tx, .bool x.of.tn.has, .string x.of.tn.nm, .int .i64 x.of.tn.st] : List Value).length → (UW.cell? ⟨w.heap.size + 1, 0 + i, none⟩).isSome = true := (fun i hi => by have hz : i < ([.int .i64 0, .bool false, .bool false, .int .i64 0, .int .i64 0, .int .i64 0, .int .i64 0, .int .i64 0, .string ⟨#[]⟩, .string ⟨#[]⟩, .string ⟨#[]⟩, .slice none 0 0, .int .i64 0, .bool false, .int .i64 0, .string ⟨#[]⟩, .bool false, .string ⟨#[]⟩, .int .i64 0] : List Value).length := hi; rw [Nat.zero_add, ZRW i _ (List.getElem?_eq_getElem hz)]; rfl); clear hgrow hown hbt ZXU ZRU fRU ZYU fYU HLU HOU hO c0 c1 c2 hBU) | refine M.wpList_load_blk rfl 50 (.tmp 5) rfl X rfl [.int .i64 x.no, .bool x.up, .bool x.has, .int .i64 x.of.kd, .int .i64 x.of.to, .int .i64 x.of.fr, .int .i64 x.of.ep, .int .i64 x.of.ed, .string x.of.km.nm, .string x.of.km.tl, .string x.of.km.ar, .slice ao x.of.ls.length c, .int .i64 x.of.ct, .bool x.of.tn.over, .int .i64 x.of.tn.cd, .string x.of.tn.tx, .bool x.of.tn.has, .string x.of.tn.nm, .int .i64 x.of.tn.st] _ ZYW Tryz.underlying50 rfl (by kernel_rfl) ?_ | refine M.wpList_store_blk rfl 50 (.tmp 2) (.tmp 55) rfl (w.heap.size + 1) 0 rfl [.int .i64 x.no, .bool x.up, .bool x.has, .int .i64 x.of.kd, .int .i64 x.of.to, .int .i64 x.of.fr, .int .i64 x.of.ep, .int .i64 x.of.ed, .string x.of.km.nm, .string x.of.km.tl, .string x.of.km.ar, .slice ao x.of.ls.length c, .int .i64 x.of.ct, .bool x.of.tn.over, .int .i64 x.of.tn.cd, .string x.of.tn.tx, .bool x.of.tn.has, .string x.of.tn.nm, .int .i64 x.of.tn.st] rfl hSome fRW (by simp [Value.oneCell']) (by kernel_rfl) rfl ?_)
       have F : M.BlkAt (M.fill UW (w.heap.size + 1) 0 [.int .i64 x.no, .bool x.up, .bool x.has, .int .i64 x.of.kd, .int .i64 x.of.to, .int .i64 x.of.fr, .int .i64 x.of.ep, .int .i64 x.of.ed, .string x.of.km.nm, .string x.of.km.tl, .string x.of.km.ar, .slice ao x.of.ls.length c, .int .i64 x.of.ct, .bool x.of.tn.over, .int .i64 x.of.tn.cd, .string x.of.tn.tx, .bool x.of.tn.has, .string x.of.tn.nm, .int .i64 x.of.tn.st]) (w.heap.size + 1) [.int .i64 x.no, .bool x.up, .bool x.has, .int .i64 x.of.kd, .int .i64 x.of.to, .int .i64 x.of.fr, .int .i64 x.of.ep, .int .i64 x.of.ed, .string x.of.km.nm, .string x.of.km.tl, .string x.of.km.ar, .slice ao x.of.ls.length c, .int .i64 x.of.ct, .bool x.of.tn.over, .int .i64 x.of.tn.cd, .string x.of.tn.tx, .bool x.of.tn.has, .string x.of.tn.nm, .int .i64 x.of.tn.st] := ZRW.fill0 rfl
       have hBE : Below w.heap.size w (M.fill UW (w.heap.size + 1) 0 [.int .i64 x.no, .bool x.up, .bool x.has, .int .i64 x.of.kd, .int .i64 x.of.to, .int .i64 x.of.fr, .int .i64 x.of.ep, .int .i64 x.of.ed, .string x.of.km.nm, .string x.of.km.tl, .string x.of.km.ar, .slice ao x.of.ls.length c, .int .i64 x.of.ct, .bool x.of.tn.over, .int .i64 x.of.tn.cd, .string x.of.tn.tx, .bool x.of.tn.has, .string x.of.tn.nm, .int .i64 x.of.tn.st]) := M.below_fill (by omega) _ _ hBW
       have HOE : Hid ((M.fill UW (w.heap.size + 1) 0 [.int .i64 x.no, .bool x.up, .bool x.has, .int .i64 x.of.kd, .int .i64 x.of.to, .int .i64 x.of.fr, .int .i64 x.of.ep, .int .i64 x.of.ed, .string x.of.km.nm, .string x.of.km.tl, .string x.of.km.ar, .slice ao x.of.ls.length c, .int .i64 x.of.ct, .bool x.of.tn.over, .int .i64 x.of.tn.cd, .string x.of.tn.tx, .bool x.of.tn.has, .string x.of.tn.nm, .int .i64 x.of.tn.st]).ownsRow w.heap.size 48 16 (.slice a1 1 c1') 1 [.int .i64 3, .int .i64 0, .int .i64 x.no, .int .i64 0, .int .i64 0, .string ⟨#[]⟩, .string ⟨#[]⟩, .string ⟨#[]⟩, .slice none 0 0, .int .i64 0, .bool false, .int .i64 0, .string ⟨#[]⟩, .bool false, .string ⟨#[]⟩, .int .i64 0]) := owns_mono (ownsRow_keep HOW.out fun q hq => by
        obtain ⟨hq1, cur, hc⟩ := own_block HOW.out hq
        exact (M.but_fill _ _ (M.But.refl (w.heap.size + 1) UW)).block q (blk_lt hc) (by omega)) (by omega)
       have HLE : Hid (M.LkOwn (M.fill UW (w.heap.size + 1) 0 [.int .i64 x.no, .bool x.up, .bool x.has, .int .i64 x.of.kd, .int .i64 x.of.to, .int .i64 x.of.fr, .int .i64 x.of.ep, .int .i64 x.of.ed, .string x.of.km.nm, .string x.of.km.tl, .string x.of.km.ar, .slice ao x.of.ls.length c, .int .i64 x.of.ct, .bool x.of.tn.over, .int .i64 x.of.tn.cd, .string x.of.tn.tx, .bool x.of.tn.has, .string x.of.tn.nm, .int .i64 x.of.tn.st]) w.heap.size ao x.of.ls) := (M.lkown_fill (w.heap.size + 1) _ (by omega) 0 HLW.out).mono (by omega)
       generalize (M.fill UW (w.heap.size + 1) 0 [.int .i64 x.no, .bool x.up, .bool x.has, .int .i64 x.of.kd, .int .i64 x.of.to, .int .i64 x.of.fr, .int .i64 x.of.ep, .int .i64 x.of.ed, .string x.of.km.nm, .string x.of.km.tl, .string x.of.km.ar, .slice ao x.of.ls.length c, .int .i64 x.of.ct, .bool x.of.tn.over, .int .i64 x.of.tn.cd, .string x.of.tn.tx, .bool x.of.tn.has, .string x.of.tn.nm, .int .i64 x.of.tn.st]) = E at *
       refine bodyPost_ret (v := .tuple #[.agg #[.int .i64 x.no, .bool x.up, .bool x.has, .int .i64 x.of.kd, .int .i64 x.of.to, .int .i64 x.of.fr, .int .i64 x.of.ep, .int .i64 x.of.ed, .string x.of.km.nm, .string x.of.km.tl, .string x.of.km.ar, .slice ao x.of.ls.length c, .int .i64 x.of.ct, .bool x.of.tn.over, .int .i64 x.of.tn.cd, .string x.of.tn.tx, .bool x.of.tn.has, .string x.of.tn.nm, .int .i64 x.of.tn.st], .slice a1 1 c1']) (results_blk2 (P := Tryz.prog) (ty := 50) rfl _ E (w.heap.size + 1) [.int .i64 x.no, .bool x.up, .bool x.has, .int .i64 x.of.kd, .int .i64 x.of.to, .int .i64 x.of.fr, .int .i64 x.of.ep, .int .i64 x.of.ed, .string x.of.km.nm, .string x.of.km.tl, .string x.of.km.ar, .slice ao x.of.ls.length c, .int .i64 x.of.ct, .bool x.of.tn.over, .int .i64 x.of.tn.cd, .string x.of.tn.tx, .bool x.of.tn.has, .string x.of.tn.nm, .int .i64 x.of.tn.st] _ _ rfl rfl F Tryz.underlying50 rfl (by kernel_rfl)) rfl ⟨⟨x, 1, _, ao, c, _, rfl, HTR.out, HLE.out, HOE.out⟩, hBE⟩
   · rw [hup] at c1
     have HTR : Hid (TickR x t x 0 []) := .inr (.inl ⟨hK.out, hup, rfl, rfl, rfl⟩)
     clear hup
     have hSome : ∀ i, i < ([.int .i64 x.no, .bool x.up, .bool x.has, .int .i64 x.of.kd, .int .i64 x.of.to, .int .i64 x.of.fr, .int .i64 x.of.ep, .int .i64 x.of.ed, .string x.of.km.nm, .string x.of.km.tl, .string x.of.km.ar, .slice ao x.of.ls.length c, .int .i64 x.of.ct, .bool x.of.tn.over, .int .i64 x.of.tn.cd, .string x.of.tn.tx, .bool x.of.tn.has, .string x.of.tn.nm, .int .i64 x.of.tn.st] : List Value).length → (U.cell? ⟨w.heap.size + 1, 0 + i, none⟩).isSome = true := fun i hi => by
      have hz : i < ([.int .i64 0, .bool false, .bool false, .int .i64 0, .int .i64 0, .int .i64 0, .int .i64 0, .int .i64 0, .string ⟨#[]⟩, .string ⟨#[]⟩, .string ⟨#[]⟩, .slice none 0 0, .int .i64 0, .bool false, .int .i64 0, .string ⟨#[]⟩, .bool false, .string ⟨#[]⟩, .int .i64 0] : List Value).length := hi
      rw [Nat.zero_add, ZRU i _ (List.getElem?_eq_getElem hz)]
      rfl
     go_wp2_with (first | refine M.wpList_load_blk rfl 50 (.tmp 5) rfl X rfl [.int .i64 x.no, .bool x.up, .bool x.has, .int .i64 x.of.kd, .int .i64 x.of.to, .int .i64 x.of.fr, .int .i64 x.of.ep, .int .i64 x.of.ed, .string x.of.km.nm, .string x.of.km.tl, .string x.of.km.ar, .slice ao x.of.ls.length c, .int .i64 x.of.ct, .bool x.of.tn.over, .int .i64 x.of.tn.cd, .string x.of.tn.tx, .bool x.of.tn.has, .string x.of.tn.nm, .int .i64 x.of.tn.st] _ ZYU Tryz.underlying50 rfl (by kernel_rfl) ?_ | refine M.wpList_store_blk rfl 50 (.tmp 2) (.tmp 18) rfl (w.heap.size + 1) 0 rfl [.int .i64 x.no, .bool x.up, .bool x.has, .int .i64 x.of.kd, .int .i64 x.of.to, .int .i64 x.of.fr, .int .i64 x.of.ep, .int .i64 x.of.ed, .string x.of.km.nm, .string x.of.km.tl, .string x.of.km.ar, .slice ao x.of.ls.length c, .int .i64 x.of.ct, .bool x.of.tn.over, .int .i64 x.of.tn.cd, .string x.of.tn.tx, .bool x.of.tn.has, .string x.of.tn.nm, .int .i64 x.of.tn.st] rfl hSome fRU (by simp [Value.oneCell']) (by kernel_rfl) rfl ?_)
     have F : M.BlkAt (M.fill U (w.heap.size + 1) 0 [.int .i64 x.no, .bool x.up, .bool x.has, .int .i64 x.of.kd, .int .i64 x.of.to, .int .i64 x.of.fr, .int .i64 x.of.ep, .int .i64 x.of.ed, .string x.of.km.nm, .string x.of.km.tl, .string x.of.km.ar, .slice ao x.of.ls.length c, .int .i64 x.of.ct, .bool x.of.tn.over, .int .i64 x.of.tn.cd, .string x.of.tn.tx, .bool x.of.tn.has, .string x.of.tn.nm, .int .i64 x.of.tn.st]) (w.heap.size + 1) [.int .i64 x.no, .bool x.up, .bool x.has, .int .i64 x.of.kd, .int .i64 x.of.to, .int .i64 x.of.fr, .int .i64 x.of.ep, .int .i64 x.of.ed, .string x.of.km.nm, .string x.of.km.tl, .string x.of.km.ar, .slice ao x.of.ls.length c, .int .i64 x.of.ct, .bool x.of.tn.over, .int .i64 x.of.tn.cd, .string x.of.tn.tx, .bool x.of.tn.has, .string x.of.tn.nm, .int .i64 x.of.tn.st] := ZRU.fill0 rfl
     have hBE : Below w.heap.size w (M.fill U (w.heap.size + 1) 0 [.int .i64 x.no, .bool x.up, .bool x.has, .int .i64 x.of.kd, .int .i64 x.of.to, .int .i64 x.of.fr, .int .i64 x.of.ep, .int .i64 x.of.ed, .string x.of.km.nm, .string x.of.km.tl, .string x.of.km.ar, .slice ao x.of.ls.length c, .int .i64 x.of.ct, .bool x.of.tn.over, .int .i64 x.of.tn.cd, .string x.of.tn.tx, .bool x.of.tn.has, .string x.of.tn.nm, .int .i64 x.of.tn.st]) := M.below_fill (by omega) _ _ hBU
     have HOE : Hid ((M.fill U (w.heap.size + 1) 0 [.int .i64 x.no, .bool x.up, .bool x.has, .int .i64 x.of.kd, .int .i64 x.of.to, .int .i64 x.of.fr, .int .i64 x.of.ep, .int .i64 x.of.ed, .string x.of.km.nm, .string x.of.km.tl, .string x.of.km.ar, .slice ao x.of.ls.length c, .int .i64 x.of.ct, .bool x.of.tn.over, .int .i64 x.of.tn.cd, .string x.of.tn.tx, .bool x.of.tn.has, .string x.of.tn.nm, .int .i64 x.of.tn.st]).ownsRow w.heap.size 48 16 (.slice (some ⟨w.heap.size + 2, 0, none⟩) 0 0) 0 []) := owns_mono (ownsRow_keep HOU.out fun q hq => by
      obtain ⟨hq1, cur, hc⟩ := own_block HOU.out hq
      exact (M.but_fill _ _ (M.But.refl (w.heap.size + 1) U)).block q (blk_lt hc) (by omega)) (by omega)
     have HLE : Hid (M.LkOwn (M.fill U (w.heap.size + 1) 0 [.int .i64 x.no, .bool x.up, .bool x.has, .int .i64 x.of.kd, .int .i64 x.of.to, .int .i64 x.of.fr, .int .i64 x.of.ep, .int .i64 x.of.ed, .string x.of.km.nm, .string x.of.km.tl, .string x.of.km.ar, .slice ao x.of.ls.length c, .int .i64 x.of.ct, .bool x.of.tn.over, .int .i64 x.of.tn.cd, .string x.of.tn.tx, .bool x.of.tn.has, .string x.of.tn.nm, .int .i64 x.of.tn.st]) w.heap.size ao x.of.ls) := (M.lkown_fill (w.heap.size + 1) _ (by omega) 0 HLU.out).mono (by omega)
     generalize (M.fill U (w.heap.size + 1) 0 [.int .i64 x.no, .bool x.up, .bool x.has, .int .i64 x.of.kd, .int .i64 x.of.to, .int .i64 x.of.fr, .int .i64 x.of.ep, .int .i64 x.of.ed, .string x.of.km.nm, .string x.of.km.tl, .string x.of.km.ar, .slice ao x.of.ls.length c, .int .i64 x.of.ct, .bool x.of.tn.over, .int .i64 x.of.tn.cd, .string x.of.tn.tx, .bool x.of.tn.has, .string x.of.tn.nm, .int .i64 x.of.tn.st]) = E at *
     refine bodyPost_ret (v := .tuple #[.agg #[.int .i64 x.no, .bool x.up, .bool x.has, .int .i64 x.of.kd, .int .i64 x.of.to, .int .i64 x.of.fr, .int .i64 x.of.ep, .int .i64 x.of.ed, .string x.of.km.nm, .string x.of.km.tl, .string x.of.km.ar, .slice ao x.of.ls.length c, .int .i64 x.of.ct, .bool x.of.tn.over, .int .i64 x.of.tn.cd, .string x.of.tn.tx, .bool x.of.tn.has, .string x.of.tn.nm, .int .i64 x.of.tn.st], .slice (some ⟨w.heap.size + 2, 0, none⟩) 0 0]) (results_blk2 (P := Tryz.prog) (ty := 50) rfl _ E (w.heap.size + 1) [.int .i64 x.no, .bool x.up, .bool x.has, .int .i64 x.of.kd, .int .i64 x.of.to, .int .i64 x.of.fr, .int .i64 x.of.ep, .int .i64 x.of.ed, .string x.of.km.nm, .string x.of.km.tl, .string x.of.km.ar, .slice ao x.of.ls.length c, .int .i64 x.of.ct, .bool x.of.tn.over, .int .i64 x.of.tn.cd, .string x.of.tn.tx, .bool x.of.tn.has, .string x.of.tn.nm, .int .i64 x.of.tn.st] _ _ rfl rfl F Tryz.underlying50 rfl (by kernel_rfl)) rfl ⟨⟨x, 0, [], ao, c, _, rfl, HTR.out, HLE.out, HOE.out⟩, hBE⟩
end Go.Proofs.YtpjpckmfehfniaaGreatDoor
