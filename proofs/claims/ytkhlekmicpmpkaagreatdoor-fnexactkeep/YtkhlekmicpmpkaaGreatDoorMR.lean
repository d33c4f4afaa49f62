import Derived.Test.YtkhlekmicpmpkaaGreatDoorZK35
namespace Go.Proofs.YtkhlekmicpmpkaaGreatDoor
open Go.RowKit Go.Maps
set_option maxRecDepth 100000
set_option linter.unusedVariables false
set_option linter.unusedSimpArgs false
set_option maxHeartbeats 16000000 in
theorem rl17 {K : Act → World → Prop} {Q : Exit → Act → World → Prop} {d0 d1 d2 d3 d4 d6 d8 d9 d10 d11 d14 d15 d16 d17 d18 d19 d20 d21 d22 d23 d24 d25 d26 d27 d28 d29 d30 d31 d32 d33 d34 d35 d36 d37 d38 d39 d40 d41 d42 d43 d44 d45 d46 d47 d48 d49 d50 d51 d52 d53 d54 d55 d56 d57 d58 d59 d60 d61 d62 d63 d64 d65 d66 d67 d68 d69 d70 d71 d72 d73 d74 d75 d76 d77 d78 d79 d80 d81 d82 d83 d84 d85 d86 d87 d88 d89 d90 d91 d92 d93 d94 d95 d96 d97 d98 d99 d100 d101 d102 d103 d104 d105 d106 d107 d108 d109 d110 d111 d112 d113 d114 d115 d116 d117 d118 d119 d120 d121 d122 d123 d124 d125 d126 d127 d128 d129 d130 d131 d132 d133 d134 d135 d136 d137 d138 d139 d140 d141 d142 d143 d144 : Value} {s KS : St} {m : M3} {ls : List L4} {c kc : Int} {t : ByteArray} {b12 b5 b7 : Nat} {u : World} {tb rb q : Nat} (hb12 : b12 < u.heap.size) (hb5 : b5 < u.heap.size) (hb7 : b7 < u.heap.size) (z0 : u.cell? ⟨b12, 0, none⟩ = some (.int .i64 s.wd)) (z1 : u.cell? ⟨b12, 1, none⟩ = some (.slice (some ⟨tb, 0, none⟩) s.ts.length s.ts.length)) (z2 : u.cell? ⟨b12, 2, none⟩ = some (.slice (some ⟨rb, 0, none⟩) s.rs.length s.rs.length)) (z3 : u.cell? ⟨b5, 0, none⟩ = some (.string m.nm)) (z4 : u.cell? ⟨b5, 1, none⟩ = some (.string m.tl)) (z5 : u.cell? ⟨b5, 2, none⟩ = some (.string m.ar)) (z6 : u.cell? ⟨b7, 0, none⟩ = some (.int .i64 c)) (z7 : u.cell? ⟨b7, 1, none⟩ = some (.string t)) (SA0 : Hid (StrsAt u (some ⟨tb, 0, none⟩) s.ts)) (RA0 : Hid (RecsAtS u (some ⟨rb, 0, none⟩) s.rs)) (LA0 : Hid (LksAt u (some ⟨q, 0, none⟩) ls)) (hX : ∀ tb rb q v, Below u.heap.size u v → StrsAt v (some ⟨tb, 0, none⟩) s.ts → RecsAtS v (some ⟨rb, 0, none⟩) s.rs → LksAt v (some ⟨q, 0, none⟩) ls → Calls Tryz.prog 13 #[.agg #[.int .i64 s.wd, .slice (some ⟨tb, 0, none⟩) s.ts.length s.ts.length, .slice (some ⟨rb, 0, none⟩) s.rs.length s.rs.length], .agg #[.string m.nm, .string m.tl, .string m.ar], .slice (some ⟨q, 0, none⟩) ls.length ls.length, .agg #[.int .i64 c, .string t]] v fun e w' => (∃ ta' tc' ra' rc', e = .returned (.tuple #[.agg #[.int .i64 KS.wd, .slice ta' KS.ts.length tc', .slice ra' KS.rs.length rc'], .int .i64 kc]) ∧ StOwn w' v.heap.size KS.ts KS.rs (.slice ta' KS.ts.length tc') (.slice ra' KS.rs.length rc')) ∧ Below v.heap.size v w')
 (hQ : ∀ (d : Nat) v c (a : Act) w, Q (.panic c) (a.put (some d) v) w → Q (.panic c) a w) (hKK : ∀ (y58 y59 y60 y61 y62 y63 y64 y57 y65 y66 : Value) (ta' : Option Addr) (tc' : Nat) (ra' : Option Addr) (rc' B : Nat) (E : World), Below u.heap.size u E → u.heap.size ≤ B → B < E.heap.size → BlkAt E B [.int .i64 KS.wd, .slice ta' KS.ts.length tc', .slice ra' KS.rs.length rc'] → OfT E B 37 → StOwn E u.heap.size KS.ts KS.rs (.slice ta' KS.ts.length tc') (.slice ra' KS.rs.length rc') → K { tmps := #[d0, d1, d2, d3, d4, .pointer (some ⟨b5, 0, none⟩), d6, .pointer (some ⟨b7, 0, none⟩), d8, d9, d10, d11, .pointer (some ⟨b12, 0, none⟩), .slice (some ⟨q, 0, none⟩) ls.length ls.length, .pointer (some ⟨B, 0, none⟩), .int .i64 kc, d16, d17, d18, d19, d20, d21, d22, d23, d24, d25, d26, d27, d28, d29, d30, d31, d32, d33, d34, d35, d36, d37, d38, d39, d40, d41, d42, d43, d44, d45, d46, d47, d48, d49, d50, d51, d52, d53, d54, d55, d56, y57, y58, y59, y60, y61, y62, y63, y64, y65, y66, d67, d68, d69, d70, d71, d72, d73, d74, d75, d76, d77, d78, d79, d80, d81, d82, d83, d84, d85, d86, d87, d88, d89, d90, d91, d92, d93, d94, d95, d96, d97, d98, d99, d100, d101, d102, d103, d104, d105, d106, d107, d108, d109, d110, d111, d112, d113, d114, d115, d116, d117, d118, d119, d120, d121, d122, d123, d124, d125, d126, d127, d128, d129, d130, d131, d132, d133, d134, d135, d136, d137, d138, d139, d140, d141, d142, d143, d144], defers := [] } E) :
 Code.wp Tryz.prog (Code.region 17 #[⟨some 58, .load 37 (.tmp 12), 37, "exact.go:3560", #[], none⟩, ⟨some 59, .load 27 (.tmp 5), 27, "exact.go:3560", #[], none⟩, ⟨some 60, .call ⟨.value (.func 10), #[.tmp 59], #[27]⟩, 41, "exact.go:3560", #[⟨1, .data⟩], none⟩, ⟨some 61, .move (.tmp 13), 43, "exact.go:3560", #[], none⟩, ⟨some 62, .load 30 (.tmp 7), 30, "exact.go:3560", #[], none⟩, ⟨some 63, .call ⟨.value (.func 12), #[.tmp 62], #[30]⟩, 45, "exact.go:3560", #[⟨4, .data⟩, ⟨2, .chain⟩], none⟩, ⟨some 64, .call ⟨.value (.func 13), #[.tmp 58, .tmp 60, .tmp 61, .tmp 63], #[37, 41, 43, 45]⟩, 38, "exact.go:3560", #[⟨0, .data⟩, ⟨2, .data⟩, ⟨3, .data⟩, ⟨5, .data⟩, ⟨5, .chain⟩], none⟩, ⟨some 57, .move (.tmp 64), 38, "exact.go:3560", #[⟨6, .data⟩], none⟩, ⟨some 65, .extract (.tmp 57) 0, 37, "exact.go:3560", #[⟨7, .data⟩], none⟩, ⟨some 66, .extract (.tmp 57) 1, 3, "exact.go:3560", #[⟨7, .data⟩, ⟨11, .gcOnly .lateStores⟩], none⟩, ⟨some 14, .alloc 37, 0, "exact.go:3560", #[], none⟩, ⟨none, .store 37 (.tmp 14) (.tmp 65), 0, "exact.go:3560", #[⟨10, .data⟩, ⟨8, .data⟩, ⟨6, .chain⟩, ⟨0, .phase⟩, ⟨1, .phase⟩, ⟨2, .phase⟩, ⟨3, .phase⟩, ⟨4, .phase⟩, ⟨5, .phase⟩, ⟨6, .phase⟩, ⟨7, .phase⟩, ⟨8, .phase⟩, ⟨9, .textOnly .lateStores⟩, ⟨10, .phase⟩], none⟩, ⟨some 15, .assign (.tmp 66), 3, "exact.go:3560", #[⟨9, .data⟩, ⟨11, .chain⟩, ⟨0, .phase⟩, ⟨1, .phase⟩, ⟨2, .phase⟩, ⟨3, .phase⟩, ⟨4, .phase⟩, ⟨5, .phase⟩, ⟨6, .phase⟩, ⟨7, .phase⟩, ⟨8, .phase⟩, ⟨9, .phase⟩, ⟨10, .phase⟩, ⟨11, .phase⟩], none⟩] true) (Exit.then K Q) { tmps := #[d0, d1, d2, d3, d4, .pointer (some ⟨b5, 0, none⟩), d6, .pointer (some ⟨b7, 0, none⟩), d8, d9, d10, d11, .pointer (some ⟨b12, 0, none⟩), .slice (some ⟨q, 0, none⟩) ls.length ls.length, d14, d15, d16, d17, d18, d19, d20, d21, d22, d23, d24, d25, d26, d27, d28, d29, d30, d31, d32, d33, d34, d35, d36, d37, d38, d39, d40, d41, d42, d43, d44, d45, d46, d47, d48, d49, d50, d51, d52, d53, d54, d55, d56, d57, d58, d59, d60, d61, d62, d63, d64, d65, d66, d67, d68, d69, d70, d71, d72, d73, d74, d75, d76, d77, d78, d79, d80, d81, d82, d83, d84, d85, d86, d87, d88, d89, d90, d91, d92, d93, d94, d95, d96, d97, d98, d99, d100, d101, d102, d103, d104, d105, d106, d107, d108, d109, d110, d111, d112, d113, d114, d115, d116, d117, d118, d119, d120, d121, d122, d123, d124, d125, d126, d127, d128, d129, d130, d131, d132, d133, d134, d135, d136, d137, d138, d139, d140, d141, d142, d143, d144], defers := [] } u := by
 have ku : Below u.heap.size u u := Below.refl _ _
 have lu : u.heap.size ≤ u.heap.size := Nat.le_refl _
 refine wp_region_held_drew (S := (fun u => u.cell? ⟨b12, 0, none⟩ = some (.int .i64 s.wd) ∧ u.cell? ⟨b12, 1, none⟩ = some (.slice (some ⟨tb, 0, none⟩) s.ts.length s.ts.length) ∧ u.cell? ⟨b12, 2, none⟩ = some (.slice (some ⟨rb, 0, none⟩) s.rs.length s.rs.length) ∧ u.cell? ⟨b5, 0, none⟩ = some (.string m.nm) ∧ u.cell? ⟨b5, 1, none⟩ = some (.string m.tl) ∧ u.cell? ⟨b5, 2, none⟩ = some (.string m.ar) ∧ u.cell? ⟨b7, 0, none⟩ = some (.int .i64 c) ∧ u.cell? ⟨b7, 1, none⟩ = some (.string t))) (by kernel_rfl) ?_ (fun hHeld => ?_)
 · exact ⟨z0, z1, z2, z3, z4, z5, z6, z7⟩
 refine wpAnyH_take (i := 0) (oi := ⟨some 58, .load 37 (.tmp 12), 37, "exact.go:3560", #[], none⟩) (v := ?_) rfl (by kernel_rfl) (by kernel_rfl) (by kernel_rfl) (fun _ _ _ h => hQ _ _ _ _ _ h) (Or.inl ⟨by rfl, ?_⟩) (by assumption) ?_
 rotate_left
 · intro wq hSw
   (try dsimp only at hSw)
   go_simp
   try with_reducible rfl
 try simp only [Act.put, qA, qB, qC]
 refine wpAnyH_take (i := 1) (oi := ⟨some 59, .load 27 (.tmp 5), 27, "exact.go:3560", #[], none⟩) (v := ?_) rfl (by kernel_rfl) (by kernel_rfl) (by kernel_rfl) (fun _ _ _ h => hQ _ _ _ _ _ h) (Or.inl ⟨by rfl, ?_⟩) (by assumption) ?_
 rotate_left
 · intro wq hSw
   (try dsimp only at hSw)
   go_simp
   try with_reducible rfl
 try simp only [Act.put, qA, qB, qC]
 refine wpAnyH_take (i := 3) (oi := ⟨some 61, .move (.tmp 13), 43, "exact.go:3560", #[], none⟩) (v := ?_) rfl (by kernel_rfl) (by kernel_rfl) (by kernel_rfl) (fun _ _ _ h => hQ _ _ _ _ _ h) (Or.inl ⟨by rfl, ?_⟩) (by assumption) ?_
 rotate_left
 · intro wq hSw
   (try dsimp only at hSw)
   go_simp
   try with_reducible rfl
 try simp only [Act.put, qA, qB, qC]
 refine wpAnyH_take (i := 4) (oi := ⟨some 62, .load 30 (.tmp 7), 30, "exact.go:3560", #[], none⟩) (v := ?_) rfl (by kernel_rfl) (by kernel_rfl) (by kernel_rfl) (fun _ _ _ h => hQ _ _ _ _ _ h) (Or.inl ⟨by rfl, ?_⟩) (by assumption) ?_
 rotate_left
 · intro wq hSw
   (try dsimp only at hSw)
   go_simp
   try with_reducible rfl
 try simp only [Act.put, qA, qB, qC]
 refine wpAnyH_ready (rs := [2, 10]) (by kernel_rfl) (by simp) ?_
 refine AllReadyH.cons (o := ⟨some 60, .call ⟨.value (.func 10), #[.tmp 59], #[27]⟩, 41, "exact.go:3560", #[⟨1, .data⟩], none⟩) rfl (fun K hK => ?_) (AllReadyH.cons (o := ⟨some 14, .alloc 37, 0, "exact.go:3560", #[], none⟩) rfl (fun K hK => ?_) AllReadyH.nil)
 · go_simp
   refine (c10 m _).mono ?_
   rintro e v1 ⟨rfl, hcv1⟩
   go_wp2_with fail
   have kv1 : Below u.heap.size u v1 := ku.drew.trans hcv1
   have hdv1 : Below u.heap.size u v1 := ku.drew.trans hcv1
   have SA_v1 := hidI (strs_below SA0.out hdv1)
   have RA_v1 := hidI (recsS_below RA0.out hdv1)
   have LA_v1 := hidI (lks_below LA0.out hdv1)
   have a0v1 := (kv1.cell (p := ⟨b12, 0, none⟩) hb12).trans z0
   have a1v1 := (kv1.cell (p := ⟨b12, 1, none⟩) hb12).trans z1
   have a2v1 := (kv1.cell (p := ⟨b12, 2, none⟩) hb12).trans z2
   have a3v1 := (kv1.cell (p := ⟨b5, 0, none⟩) hb5).trans z3
   have a4v1 := (kv1.cell (p := ⟨b5, 1, none⟩) hb5).trans z4
   have a5v1 := (kv1.cell (p := ⟨b5, 2, none⟩) hb5).trans z5
   have a6v1 := (kv1.cell (p := ⟨b7, 0, none⟩) hb7).trans z6
   have a7v1 := (kv1.cell (p := ⟨b7, 1, none⟩) hb7).trans z7
   have lv1 := kv1.size
   clear hHeld
   refine hK.out _ _ ⟨a0v1, a1v1, a2v1, a3v1, a4v1, a5v1, a6v1, a7v1⟩ (fun hHeld => ?_)
   clear hK K
   try simp only [Act.put, qA, qB, qC]
   refine wpAnyH_ready (rs := [5, 10]) (by kernel_rfl) (by simp) ?_
   refine AllReadyH.cons (o := ⟨some 63, .call ⟨.value (.func 12), #[.tmp 62], #[30]⟩, 45, "exact.go:3560", #[⟨4, .data⟩, ⟨2, .chain⟩], none⟩) rfl (fun K hK => ?_) (AllReadyH.cons (o := ⟨some 14, .alloc 37, 0, "exact.go:3560", #[], none⟩) rfl (fun K hK => ?_) AllReadyH.nil)
   · go_simp
     refine (c12 c t _).mono ?_
     rintro e v2 ⟨rfl, hcv2⟩
     go_wp2_with fail
     have kv2 : Below u.heap.size u v2 := kv1.trans (hcv2.mono lv1)
     have hdv2 : Below v1.heap.size v1 v2 := hcv2
     have SA_v2 := hidI (strs_below SA_v1.out hdv2)
     have RA_v2 := hidI (recsS_below RA_v1.out hdv2)
     have LA_v2 := hidI (lks_below LA_v1.out hdv2)
     clear SA_v1
     clear RA_v1
     clear LA_v1
     have a0v2 := (kv2.cell (p := ⟨b12, 0, none⟩) hb12).trans z0
     have a1v2 := (kv2.cell (p := ⟨b12, 1, none⟩) hb12).trans z1
     have a2v2 := (kv2.cell (p := ⟨b12, 2, none⟩) hb12).trans z2
     have a3v2 := (kv2.cell (p := ⟨b5, 0, none⟩) hb5).trans z3
     have a4v2 := (kv2.cell (p := ⟨b5, 1, none⟩) hb5).trans z4
     have a5v2 := (kv2.cell (p := ⟨b5, 2, none⟩) hb5).trans z5
     have a6v2 := (kv2.cell (p := ⟨b7, 0, none⟩) hb7).trans z6
     have a7v2 := (kv2.cell (p := ⟨b7, 1, none⟩) hb7).trans z7
     have lv2 := kv2.size
     clear hHeld
     refine hK.out _ _ ⟨a0v2, a1v2, a2v2, a3v2, a4v2, a5v2, a6v2, a7v2⟩ (fun hHeld => ?_)
     clear hK K
     try simp only [Act.put, qA, qB, qC]
     refine wpAnyH_ready (rs := [6, 10]) (by kernel_rfl) (by simp) ?_
     refine AllReadyH.cons (o := ⟨some 64, .call ⟨.value (.func 13), #[.tmp 58, .tmp 60, .tmp 61, .tmp 63], #[37, 41, 43, 45]⟩, 38, "exact.go:3560", #[⟨0, .data⟩, ⟨2, .data⟩, ⟨3, .data⟩, ⟨5, .data⟩, ⟨5, .chain⟩], none⟩) rfl (fun K hK => ?_) (AllReadyH.cons (o := ⟨some 14, .alloc 37, 0, "exact.go:3560", #[], none⟩) rfl (fun K hK => ?_) AllReadyH.nil)
     · go_simp
       refine (hX tb rb q _ kv2 SA_v2.out RA_v2.out LA_v2.out).mono ?_
       rintro e v3 ⟨⟨ta', tc', ra', rc', rfl, how⟩, hcv3⟩
       go_wp2_with fail
       have kv3 : Below u.heap.size u v3 := kv2.trans (hcv3.mono lv2)
       have hdv3 : Below v2.heap.size v2 v3 := hcv3
       have SA_v3 := hidI (strs_below SA_v2.out hdv3)
       have RA_v3 := hidI (recsS_below RA_v2.out hdv3)
       have LA_v3 := hidI (lks_below LA_v2.out hdv3)
       clear SA_v2
       clear RA_v2
       clear LA_v2
       have OW_v3 : Hid (StOwn v3 u.heap.size KS.ts KS.rs (.slice ta' KS.ts.length tc') (.slice ra' KS.rs.length rc')) := hidI (stOwn_low how (by first | exact lv2 | exact Nat.le_refl _))
       clear how
       have a0v3 := (kv3.cell (p := ⟨b12, 0, none⟩) hb12).trans z0
       have a1v3 := (kv3.cell (p := ⟨b12, 1, none⟩) hb12).trans z1
       have a2v3 := (kv3.cell (p := ⟨b12, 2, none⟩) hb12).trans z2
       have a3v3 := (kv3.cell (p := ⟨b5, 0, none⟩) hb5).trans z3
       have a4v3 := (kv3.cell (p := ⟨b5, 1, none⟩) hb5).trans z4
       have a5v3 := (kv3.cell (p := ⟨b5, 2, none⟩) hb5).trans z5
       have a6v3 := (kv3.cell (p := ⟨b7, 0, none⟩) hb7).trans z6
       have a7v3 := (kv3.cell (p := ⟨b7, 1, none⟩) hb7).trans z7
       have lv3 := kv3.size
       clear hHeld
       refine hK.out _ _ ⟨a0v3, a1v3, a2v3, a3v3, a4v3, a5v3, a6v3, a7v3⟩ (fun hHeld => ?_)
       clear hK K
       try simp only [Act.put, qA, qB, qC]
       refine wpAnyH_take (i := 7) (oi := ⟨some 57, .move (.tmp 64), 38, "exact.go:3560", #[⟨6, .data⟩], none⟩) (v := ?_) rfl (by kernel_rfl) (by kernel_rfl) (by kernel_rfl) (fun _ _ _ h => hQ _ _ _ _ _ h) (Or.inl ⟨by rfl, ?_⟩) (by assumption) ?_
       rotate_left
       · intro wq hSw
         (try dsimp only at hSw)
         go_simp
         try with_reducible rfl
       try simp only [Act.put, qA, qB, qC]
       refine wpAnyH_take (i := 8) (oi := ⟨some 65, .extract (.tmp 57) 0, 37, "exact.go:3560", #[⟨7, .data⟩], none⟩) (v := ?_) rfl (by kernel_rfl) (by kernel_rfl) (by kernel_rfl) (fun _ _ _ h => hQ _ _ _ _ _ h) (Or.inl ⟨by rfl, ?_⟩) (by assumption) ?_
       rotate_left
       · intro wq hSw
         (try dsimp only at hSw)
         go_simp
         try with_reducible rfl
       try simp only [Act.put, qA, qB, qC]
       refine wpAnyH_take (i := 9) (oi := ⟨some 66, .extract (.tmp 57) 1, 3, "exact.go:3560", #[⟨7, .data⟩, ⟨11, .gcOnly .lateStores⟩], none⟩) (v := ?_) rfl (by kernel_rfl) (by kernel_rfl) (by kernel_rfl) (fun _ _ _ h => hQ _ _ _ _ _ h) (Or.inl ⟨by rfl, ?_⟩) (by assumption) ?_
       rotate_left
       · intro wq hSw
         (try dsimp only at hSw)
         go_simp
         try with_reducible rfl
       try simp only [Act.put, qA, qB, qC]
       refine wpAnyH_ready (rs := [10]) (by kernel_rfl) (by simp) ?_
       refine AllReadyH.cons (o := ⟨some 14, .alloc 37, 0, "exact.go:3560", #[], none⟩) rfl (fun K hK => ?_) AllReadyH.nil
       go_simp
       have kv4 : Below u.heap.size u (v3.alloc (.cells #[.int .i64 0, .slice none 0 0, .slice none 0 0] 37)) := (kv3.alloc lv3 _)
       have bB_v4 : Hid (BlkAt (v3.alloc (.cells #[.int .i64 0, .slice none 0 0, .slice none 0 0] 37)) v3.heap.size [.int .i64 0, .slice none 0 0, .slice none 0 0]) := hidI (blk_new v3 [.int .i64 0, .slice none 0 0, .slice none 0 0] 37)
       have oB_v4 : Hid (OpnAt (v3.alloc (.cells #[.int .i64 0, .slice none 0 0, .slice none 0 0] 37)) v3.heap.size) := hidI (opn_new v3 #[.int .i64 0, .slice none 0 0, .slice none 0 0] 37)
       have tB_v4 : Hid (OfT (v3.alloc (.cells #[.int .i64 0, .slice none 0 0, .slice none 0 0] 37)) v3.heap.size 37) := hidI (ofT_new v3 #[.int .i64 0, .slice none 0 0, .slice none 0 0] 37)
       have hBl_v4 : v3.heap.size < (v3.alloc (.cells #[.int .i64 0, .slice none 0 0, .slice none 0 0] 37)).heap.size := by simp
       have hdv4 : Below v3.heap.size v3 (v3.alloc (.cells #[.int .i64 0, .slice none 0 0, .slice none 0 0] 37)) := (Below.refl _ _).alloc (Nat.le_refl _) _
       have SA_v4 := hidI (strs_below SA_v3.out hdv4)
       have RA_v4 := hidI (recsS_below RA_v3.out hdv4)
       have LA_v4 := hidI (lks_below LA_v3.out hdv4)
       have OW_v4 := hidI (stOwn_below OW_v3.out hdv4)
       clear SA_v3
       clear RA_v3
       clear LA_v3
       clear OW_v3
       have a0v4 := (kv4.cell (p := ⟨b12, 0, none⟩) hb12).trans z0
       have a1v4 := (kv4.cell (p := ⟨b12, 1, none⟩) hb12).trans z1
       have a2v4 := (kv4.cell (p := ⟨b12, 2, none⟩) hb12).trans z2
       have a3v4 := (kv4.cell (p := ⟨b5, 0, none⟩) hb5).trans z3
       have a4v4 := (kv4.cell (p := ⟨b5, 1, none⟩) hb5).trans z4
       have a5v4 := (kv4.cell (p := ⟨b5, 2, none⟩) hb5).trans z5
       have a6v4 := (kv4.cell (p := ⟨b7, 0, none⟩) hb7).trans z6
       have a7v4 := (kv4.cell (p := ⟨b7, 1, none⟩) hb7).trans z7
       have lv4 := kv4.size
       clear hHeld
       refine hK.out _ _ ⟨a0v4, a1v4, a2v4, a3v4, a4v4, a5v4, a6v4, a7v4⟩ (fun hHeld => ?_)
       clear hK K
       try simp only [Act.put, qA, qB, qC]
       generalize (v3.alloc (.cells #[.int .i64 0, .slice none 0 0, .slice none 0 0] 37)) = v4 at *
       refine wpAnyH_ready (rs := [11]) (by kernel_rfl) (by simp) ?_
       refine AllReadyH.cons (o := ⟨none, .store 37 (.tmp 14) (.tmp 65), 0, "exact.go:3560", #[⟨10, .data⟩, ⟨8, .data⟩, ⟨6, .chain⟩, ⟨0, .phase⟩, ⟨1, .phase⟩, ⟨2, .phase⟩, ⟨3, .phase⟩, ⟨4, .phase⟩, ⟨5, .phase⟩, ⟨6, .phase⟩, ⟨7, .phase⟩, ⟨8, .phase⟩, ⟨9, .textOnly .lateStores⟩, ⟨10, .phase⟩], none⟩) rfl (fun K hK => ?_) AllReadyH.nil
       refine step_store_blk rfl 37 (.tmp 14) (.tmp 65) rfl v3.heap.size 0 rfl [.int .i64 KS.wd, .slice ta' KS.ts.length tc', .slice ra' KS.rs.length rc'] rfl (blk_some bB_v4.out rfl) oB_v4.out (by simp [Value.oneCell']) (by kernel_rfl) rfl ?_
       clear hHeld
       refine st_overT (old := [.int .i64 0, .slice none 0 0, .slice none 0 0]) (N := u.heap.size) rfl bB_v4.out oB_v4.out tB_v4.out (by omega) ?_
       intro E bE ZE OE TE hEs hE
       have kE : Below u.heap.size u E := kv4.trans bE
       have a0E := (kE.cell (p := ⟨b12, 0, none⟩) hb12).trans z0
       have a1E := (kE.cell (p := ⟨b12, 1, none⟩) hb12).trans z1
       have a2E := (kE.cell (p := ⟨b12, 2, none⟩) hb12).trans z2
       have a3E := (kE.cell (p := ⟨b5, 0, none⟩) hb5).trans z3
       have a4E := (kE.cell (p := ⟨b5, 1, none⟩) hb5).trans z4
       have a5E := (kE.cell (p := ⟨b5, 2, none⟩) hb5).trans z5
       have a6E := (kE.cell (p := ⟨b7, 0, none⟩) hb7).trans z6
       have a7E := (kE.cell (p := ⟨b7, 1, none⟩) hb7).trans z7
       have lE := kE.size
       have RE : StOwn E u.heap.size KS.ts KS.rs (.slice ta' KS.ts.length tc') (.slice ra' KS.rs.length rc') := stOwn_keep OW_v4.out (fun q t hT ht => hE q (ofT_lt hT) (fun e => by
        have e2 := ofT_one hT (e ▸ tB_v4.out)
        rcases ht with rfl | rfl | rfl <;> exact absurd e2 (by decide)))
       refine hK.out _ _ ⟨a0E, a1E, a2E, a3E, a4E, a5E, a6E, a7E⟩ (fun hHeld => ?_)
       clear hK K
       try simp only [Act.put, qA, qB, qC]
       refine wpAnyH_take (i := 12) (oi := ⟨some 15, .assign (.tmp 66), 3, "exact.go:3560", #[⟨9, .data⟩, ⟨11, .chain⟩, ⟨0, .phase⟩, ⟨1, .phase⟩, ⟨2, .phase⟩, ⟨3, .phase⟩, ⟨4, .phase⟩, ⟨5, .phase⟩, ⟨6, .phase⟩, ⟨7, .phase⟩, ⟨8, .phase⟩, ⟨9, .phase⟩, ⟨10, .phase⟩, ⟨11, .phase⟩], none⟩) (v := ?_) rfl (by kernel_rfl) (by kernel_rfl) (by kernel_rfl) (fun _ _ _ h => hQ _ _ _ _ _ h) (Or.inl ⟨by rfl, ?_⟩) (by assumption) ?_
       rotate_left
       · intro wq hSw
         (try dsimp only at hSw)
         go_simp
         try with_reducible rfl
       try simp only [Act.put, qA, qB, qC]
       refine wpAnyH_done (by kernel_rfl) ?_ _
       clear hHeld
       exact hKK _ _ _ _ _ _ _ _ _ _ ta' tc' ra' rc' v3.heap.size E kE (by omega) (by have := kE.size; have := bE.size; have := hBl_v4; omega) ZE TE RE
     · go_simp
       have kv5 : Below u.heap.size u (v2.alloc (.cells #[.int .i64 0, .slice none 0 0, .slice none 0 0] 37)) := (kv2.alloc lv2 _)
       have bB_v5 : Hid (BlkAt (v2.alloc (.cells #[.int .i64 0, .slice none 0 0, .slice none 0 0] 37)) v2.heap.size [.int .i64 0, .slice none 0 0, .slice none 0 0]) := hidI (blk_new v2 [.int .i64 0, .slice none 0 0, .slice none 0 0] 37)
       have oB_v5 : Hid (OpnAt (v2.alloc (.cells #[.int .i64 0, .slice none 0 0, .slice none 0 0] 37)) v2.heap.size) := hidI (opn_new v2 #[.int .i64 0, .slice none 0 0, .slice none 0 0] 37)
       have tB_v5 : Hid (OfT (v2.alloc (.cells #[.int .i64 0, .slice none 0 0, .slice none 0 0] 37)) v2.heap.size 37) := hidI (ofT_new v2 #[.int .i64 0, .slice none 0 0, .slice none 0 0] 37)
       have hBl_v5 : v2.heap.size < (v2.alloc (.cells #[.int .i64 0, .slice none 0 0, .slice none 0 0] 37)).heap.size := by simp
       have hdv5 : Below v2.heap.size v2 (v2.alloc (.cells #[.int .i64 0, .slice none 0 0, .slice none 0 0] 37)) := (Below.refl _ _).alloc (Nat.le_refl _) _
       have SA_v5 := hidI (strs_below SA_v2.out hdv5)
       have RA_v5 := hidI (recsS_below RA_v2.out hdv5)
       have LA_v5 := hidI (lks_below LA_v2.out hdv5)
       clear SA_v2
       clear RA_v2
       clear LA_v2
       have a0v5 := (kv5.cell (p := ⟨b12, 0, none⟩) hb12).trans z0
       have a1v5 := (kv5.cell (p := ⟨b12, 1, none⟩) hb12).trans z1
       have a2v5 := (kv5.cell (p := ⟨b12, 2, none⟩) hb12).trans z2
       have a3v5 := (kv5.cell (p := ⟨b5, 0, none⟩) hb5).trans z3
       have a4v5 := (kv5.cell (p := ⟨b5, 1, none⟩) hb5).trans z4
       have a5v5 := (kv5.cell (p := ⟨b5, 2, none⟩) hb5).trans z5
       have a6v5 := (kv5.cell (p := ⟨b7, 0, none⟩) hb7).trans z6
       have a7v5 := (kv5.cell (p := ⟨b7, 1, none⟩) hb7).trans z7
       have lv5 := kv5.size
       clear hHeld
       refine hK.out _ _ ⟨a0v5, a1v5, a2v5, a3v5, a4v5, a5v5, a6v5, a7v5⟩ (fun hHeld => ?_)
       clear hK K
       try simp only [Act.put, qA, qB, qC]
       generalize (v2.alloc (.cells #[.int .i64 0, .slice none 0 0, .slice none 0 0] 37)) = v5 at *
       refine wpAnyH_ready (rs := [6]) (by kernel_rfl) (by simp) ?_
       refine AllReadyH.cons (o := ⟨some 64, .call ⟨.value (.func 13), #[.tmp 58, .tmp 60, .tmp 61, .tmp 63], #[37, 41, 43, 45]⟩, 38, "exact.go:3560", #[⟨0, .data⟩, ⟨2, .data⟩, ⟨3, .data⟩, ⟨5, .data⟩, ⟨5, .chain⟩], none⟩) rfl (fun K hK => ?_) AllReadyH.nil
       go_simp
       refine (hX tb rb q _ kv5 SA_v5.out RA_v5.out LA_v5.out).mono ?_
       rintro e v6 ⟨⟨ta', tc', ra', rc', rfl, how⟩, hcv6⟩
       go_wp2_with fail
       have kv6 : Below u.heap.size u v6 := kv5.trans (hcv6.mono lv5)
       have hdv6 : Below v5.heap.size v5 v6 := hcv6
       have SA_v6 := hidI (strs_below SA_v5.out hdv6)
       have RA_v6 := hidI (recsS_below RA_v5.out hdv6)
       have LA_v6 := hidI (lks_below LA_v5.out hdv6)
       have bB_v6 := hidI (bB_v5.out.below hdv6 hBl_v5)
       have oB_v6 := hidI (oB_v5.out.below hdv6 hBl_v5)
       have tB_v6 := hidI (tB_v5.out.below hdv6 hBl_v5)
       have hBl_v6 := Nat.lt_of_lt_of_le hBl_v5 hdv6.size
       clear SA_v5
       clear RA_v5
       clear LA_v5
       clear bB_v5
       clear oB_v5
       clear tB_v5
       clear hBl_v5
       have OW_v6 : Hid (StOwn v6 u.heap.size KS.ts KS.rs (.slice ta' KS.ts.length tc') (.slice ra' KS.rs.length rc')) := hidI (stOwn_low how (by first | exact lv5 | exact Nat.le_refl _))
       clear how
       have a0v6 := (kv6.cell (p := ⟨b12, 0, none⟩) hb12).trans z0
       have a1v6 := (kv6.cell (p := ⟨b12, 1, none⟩) hb12).trans z1
       have a2v6 := (kv6.cell (p := ⟨b12, 2, none⟩) hb12).trans z2
       have a3v6 := (kv6.cell (p := ⟨b5, 0, none⟩) hb5).trans z3
       have a4v6 := (kv6.cell (p := ⟨b5, 1, none⟩) hb5).trans z4
       have a5v6 := (kv6.cell (p := ⟨b5, 2, none⟩) hb5).trans z5
       have a6v6 := (kv6.cell (p := ⟨b7, 0, none⟩) hb7).trans z6
       have a7v6 := (kv6.cell (p := ⟨b7, 1, none⟩) hb7).trans z7
       have lv6 := kv6.size
       clear hHeld
       refine hK.out _ _ ⟨a0v6, a1v6, a2v6, a3v6, a4v6, a5v6, a6v6, a7v6⟩ (fun hHeld => ?_)
       clear hK K
       try simp only [Act.put, qA, qB, qC]
       refine wpAnyH_take (i := 7) (oi := ⟨some 57, .move (.tmp 64), 38, "exact.go:3560", #[⟨6, .data⟩], none⟩) (v := ?_) rfl (by kernel_rfl) (by kernel_rfl) (by kernel_rfl) (fun _ _ _ h => hQ _ _ _ _ _ h) (Or.inl ⟨by rfl, ?_⟩) (by assumption) ?_
       rotate_left
       · intro wq hSw
         (try dsimp only at hSw)
         go_simp
         try with_reducible rfl
       try simp only [Act.put, qA, qB, qC]
       refine wpAnyH_take (i := 8) (oi := ⟨some 65, .extract (.tmp 57) 0, 37, "exact.go:3560", #[⟨7, .data⟩], none⟩) (v := ?_) rfl (by kernel_rfl) (by kernel_rfl) (by kernel_rfl) (fun _ _ _ h => hQ _ _ _ _ _ h) (Or.inl ⟨by rfl, ?_⟩) (by assumption) ?_
       rotate_left
       · intro wq hSw
         (try dsimp only at hSw)
         go_simp
         try with_reducible rfl
       try simp only [Act.put, qA, qB, qC]
       refine wpAnyH_take (i := 9) (oi := ⟨some 66, .extract (.tmp 57) 1, 3, "exact.go:3560", #[⟨7, .data⟩, ⟨11, .gcOnly .lateStores⟩], none⟩) (v := ?_) rfl (by kernel_rfl) (by kernel_rfl) (by kernel_rfl) (fun _ _ _ h => hQ _ _ _ _ _ h) (Or.inl ⟨by rfl, ?_⟩) (by assumption) ?_
       rotate_left
       · intro wq hSw
         (try dsimp only at hSw)
         go_simp
         try with_reducible rfl
       try simp only [Act.put, qA, qB, qC]
       refine wpAnyH_ready (rs := [11]) (by kernel_rfl) (by simp) ?_
       refine AllReadyH.cons (o := ⟨none, .store 37 (.tmp 14) (.tmp 65), 0, "exact.go:3560", #[⟨10, .data⟩, ⟨8, .data⟩, ⟨6, .chain⟩, ⟨0, .phase⟩, ⟨1, .phase⟩, ⟨2, .phase⟩, ⟨3, .phase⟩, ⟨4, .phase⟩, ⟨5, .phase⟩, ⟨6, .phase⟩, ⟨7, .phase⟩, ⟨8, .phase⟩, ⟨9, .textOnly .lateStores⟩, ⟨10, .phase⟩], none⟩) rfl (fun K hK => ?_) AllReadyH.nil
       refine step_store_blk rfl 37 (.tmp 14) (.tmp 65) rfl v2.heap.size 0 rfl [.int .i64 KS.wd, .slice ta' KS.ts.length tc', .slice ra' KS.rs.length rc'] rfl (blk_some bB_v6.out rfl) oB_v6.out (by simp [Value.oneCell']) (by kernel_rfl) rfl ?_
       clear hHeld
       refine st_overT (old := [.int .i64 0, .slice none 0 0, .slice none 0 0]) (N := u.heap.size) rfl bB_v6.out oB_v6.out tB_v6.out (by omega) ?_
       intro E bE ZE OE TE hEs hE
       have kE : Below u.heap.size u E := kv6.trans bE
       have a0E := (kE.cell (p := ⟨b12, 0, none⟩) hb12).trans z0
       have a1E := (kE.cell (p := ⟨b12, 1, none⟩) hb12).trans z1
       have a2E := (kE.cell (p := ⟨b12, 2, none⟩) hb12).trans z2
       have a3E := (kE.cell (p := ⟨b5, 0, none⟩) hb5).trans z3
       have a4E := (kE.cell (p := ⟨b5, 1, none⟩) hb5).trans z4
       have a5E := (kE.cell (p := ⟨b5, 2, none⟩) hb5).trans z5
       have a6E := (kE.cell (p := ⟨b7, 0, none⟩) hb7).trans z6
       have a7E := (kE.cell (p := ⟨b7, 1, none⟩) hb7).trans z7
       have lE := kE.size
       have RE : StOwn E u.heap.size KS.ts KS.rs (.slice ta' KS.ts.length tc') (.slice ra' KS.rs.length rc') := stOwn_keep OW_v6.out (fun q t hT ht => hE q (ofT_lt hT) (fun e => by
        have e2 := ofT_one hT (e ▸ tB_v6.out)
        rcases ht with rfl | rfl | rfl <;> exact absurd e2 (by decide)))
       refine hK.out _ _ ⟨a0E, a1E, a2E, a3E, a4E, a5E, a6E, a7E⟩ (fun hHeld => ?_)
       clear hK K
       try simp only [Act.put, qA, qB, qC]
       refine wpAnyH_take (i := 12) (oi := ⟨some 15, .assign (.tmp 66), 3, "exact.go:3560", #[⟨9, .data⟩, ⟨11, .chain⟩, ⟨0, .phase⟩, ⟨1, .phase⟩, ⟨2, .phase⟩, ⟨3, .phase⟩, ⟨4, .phase⟩, ⟨5, .phase⟩, ⟨6, .phase⟩, ⟨7, .phase⟩, ⟨8, .phase⟩, ⟨9, .phase⟩, ⟨10, .phase⟩, ⟨11, .phase⟩], none⟩) (v := ?_) rfl (by kernel_rfl) (by kernel_rfl) (by kernel_rfl) (fun _ _ _ h => hQ _ _ _ _ _ h) (Or.inl ⟨by rfl, ?_⟩) (by assumption) ?_
       rotate_left
       · intro wq hSw
         (try dsimp only at hSw)
         go_simp
         try with_reducible rfl
       try simp only [Act.put, qA, qB, qC]
       refine wpAnyH_done (by kernel_rfl) ?_ _
       clear hHeld
       exact hKK _ _ _ _ _ _ _ _ _ _ ta' tc' ra' rc' v2.heap.size E kE (by omega) (by have := kE.size; have := bE.size; have := hBl_v6; omega) ZE TE RE
   · go_simp
     have kv7 : Below u.heap.size u (v1.alloc (.cells #[.int .i64 0, .slice none 0 0, .slice none 0 0] 37)) := (kv1.alloc lv1 _)
     have bB_v7 : Hid (BlkAt (v1.alloc (.cells #[.int .i64 0, .slice none 0 0, .slice none 0 0] 37)) v1.heap.size [.int .i64 0, .slice none 0 0, .slice none 0 0]) := hidI (blk_new v1 [.int .i64 0, .slice none 0 0, .slice none 0 0] 37)
     have oB_v7 : Hid (OpnAt (v1.alloc (.cells #[.int .i64 0, .slice none 0 0, .slice none 0 0] 37)) v1.heap.size) := hidI (opn_new v1 #[.int .i64 0, .slice none 0 0, .slice none 0 0] 37)
     have tB_v7 : Hid (OfT (v1.alloc (.cells #[.int .i64 0, .slice none 0 0, .slice none 0 0] 37)) v1.heap.size 37) := hidI (ofT_new v1 #[.int .i64 0, .slice none 0 0, .slice none 0 0] 37)
     have hBl_v7 : v1.heap.size < (v1.alloc (.cells #[.int .i64 0, .slice none 0 0, .slice none 0 0] 37)).heap.size := by simp
     have hdv7 : Below v1.heap.size v1 (v1.alloc (.cells #[.int .i64 0, .slice none 0 0, .slice none 0 0] 37)) := (Below.refl _ _).alloc (Nat.le_refl _) _
     have SA_v7 := hidI (strs_below SA_v1.out hdv7)
     have RA_v7 := hidI (recsS_below RA_v1.out hdv7)
     have LA_v7 := hidI (lks_below LA_v1.out hdv7)
     clear SA_v1
     clear RA_v1
     clear LA_v1
     have a0v7 := (kv7.cell (p := ⟨b12, 0, none⟩) hb12).trans z0
     have a1v7 := (kv7.cell (p := ⟨b12, 1, none⟩) hb12).trans z1
     have a2v7 := (kv7.cell (p := ⟨b12, 2, none⟩) hb12).trans z2
     have a3v7 := (kv7.cell (p := ⟨b5, 0, none⟩) hb5).trans z3
     have a4v7 := (kv7.cell (p := ⟨b5, 1, none⟩) hb5).trans z4
     have a5v7 := (kv7.cell (p := ⟨b5, 2, none⟩) hb5).trans z5
     have a6v7 := (kv7.cell (p := ⟨b7, 0, none⟩) hb7).trans z6
     have a7v7 := (kv7.cell (p := ⟨b7, 1, none⟩) hb7).trans z7
     have lv7 := kv7.size
     clear hHeld
     refine hK.out _ _ ⟨a0v7, a1v7, a2v7, a3v7, a4v7, a5v7, a6v7, a7v7⟩ (fun hHeld => ?_)
     clear hK K
     try simp only [Act.put, qA, qB, qC]
     generalize (v1.alloc (.cells #[.int .i64 0, .slice none 0 0, .slice none 0 0] 37)) = v7 at *
     refine wpAnyH_ready (rs := [5]) (by kernel_rfl) (by simp) ?_
     refine AllReadyH.cons (o := ⟨some 63, .call ⟨.value (.func 12), #[.tmp 62], #[30]⟩, 45, "exact.go:3560", #[⟨4, .data⟩, ⟨2, .chain⟩], none⟩) rfl (fun K hK => ?_) AllReadyH.nil
     go_simp
     refine (c12 c t _).mono ?_
     rintro e v8 ⟨rfl, hcv8⟩
     go_wp2_with fail
     have kv8 : Below u.heap.size u v8 := kv7.trans (hcv8.mono lv7)
     have hdv8 : Below v7.heap.size v7 v8 := hcv8
     have SA_v8 := hidI (strs_below SA_v7.out hdv8)
     have RA_v8 := hidI (recsS_below RA_v7.out hdv8)
     have LA_v8 := hidI (lks_below LA_v7.out hdv8)
     have bB_v8 := hidI (bB_v7.out.below hdv8 hBl_v7)
     have oB_v8 := hidI (oB_v7.out.below hdv8 hBl_v7)
     have tB_v8 := hidI (tB_v7.out.below hdv8 hBl_v7)
     have hBl_v8 := Nat.lt_of_lt_of_le hBl_v7 hdv8.size
     clear SA_v7
     clear RA_v7
     clear LA_v7
     clear bB_v7
     clear oB_v7
     clear tB_v7
     clear hBl_v7
     have a0v8 := (kv8.cell (p := ⟨b12, 0, none⟩) hb12).trans z0
     have a1v8 := (kv8.cell (p := ⟨b12, 1, none⟩) hb12).trans z1
     have a2v8 := (kv8.cell (p := ⟨b12, 2, none⟩) hb12).trans z2
     have a3v8 := (kv8.cell (p := ⟨b5, 0, none⟩) hb5).trans z3
     have a4v8 := (kv8.cell (p := ⟨b5, 1, none⟩) hb5).trans z4
     have a5v8 := (kv8.cell (p := ⟨b5, 2, none⟩) hb5).trans z5
     have a6v8 := (kv8.cell (p := ⟨b7, 0, none⟩) hb7).trans z6
     have a7v8 := (kv8.cell (p := ⟨b7, 1, none⟩) hb7).trans z7
     have lv8 := kv8.size
     clear hHeld
     refine hK.out _ _ ⟨a0v8, a1v8, a2v8, a3v8, a4v8, a5v8, a6v8, a7v8⟩ (fun hHeld => ?_)
     clear hK K
     try simp only [Act.put, qA, qB, qC]
     refine wpAnyH_ready (rs := [6]) (by kernel_rfl) (by simp) ?_
     refine AllReadyH.cons (o := ⟨some 64, .call ⟨.value (.func 13), #[.tmp 58, .tmp 60, .tmp 61, .tmp 63], #[37, 41, 43, 45]⟩, 38, "exact.go:3560", #[⟨0, .data⟩, ⟨2, .data⟩, ⟨3, .data⟩, ⟨5, .data⟩, ⟨5, .chain⟩], none⟩) rfl (fun K hK => ?_) AllReadyH.nil
     go_simp
     refine (hX tb rb q _ kv8 SA_v8.out RA_v8.out LA_v8.out).mono ?_
     rintro e v9 ⟨⟨ta', tc', ra', rc', rfl, how⟩, hcv9⟩
     go_wp2_with fail
     have kv9 : Below u.heap.size u v9 := kv8.trans (hcv9.mono lv8)
     have hdv9 : Below v8.heap.size v8 v9 := hcv9
     have SA_v9 := hidI (strs_below SA_v8.out hdv9)
     have RA_v9 := hidI (recsS_below RA_v8.out hdv9)
     have LA_v9 := hidI (lks_below LA_v8.out hdv9)
     have bB_v9 := hidI (bB_v8.out.below hdv9 hBl_v8)
     have oB_v9 := hidI (oB_v8.out.below hdv9 hBl_v8)
     have tB_v9 := hidI (tB_v8.out.below hdv9 hBl_v8)
     have hBl_v9 := Nat.lt_of_lt_of_le hBl_v8 hdv9.size
     clear SA_v8
     clear RA_v8
     clear LA_v8
     clear bB_v8
     clear oB_v8
     clear tB_v8
     clear hBl_v8
     have OW_v9 : Hid (StOwn v9 u.heap.size KS.ts KS.rs (.slice ta' KS.ts.length tc') (.slice ra' KS.rs.length rc')) := hidI (stOwn_low how (by first | exact lv8 | exact Nat.le_refl _))
     clear how
     have a0v9 := (kv9.cell (p := ⟨b12, 0, none⟩) hb12).trans z0
     have a1v9 := (kv9.cell (p := ⟨b12, 1, none⟩) hb12).trans z1
     have a2v9 := (kv9.cell (p := ⟨b12, 2, none⟩) hb12).trans z2
     have a3v9 := (kv9.cell (p := ⟨b5, 0, none⟩) hb5).trans z3
     have a4v9 := (kv9.cell (p := ⟨b5, 1, none⟩) hb5).trans z4
     have a5v9 := (kv9.cell (p := ⟨b5, 2, none⟩) hb5).trans z5
     have a6v9 := (kv9.cell (p := ⟨b7, 0, none⟩) hb7).trans z6
     have a7v9 := (kv9.cell (p := ⟨b7, 1, none⟩) hb7).trans z7
     have lv9 := kv9.size
     clear hHeld
     refine hK.out _ _ ⟨a0v9, a1v9, a2v9, a3v9, a4v9, a5v9, a6v9, a7v9⟩ (fun hHeld => ?_)
     clear hK K
     try simp only [Act.put, qA, qB, qC]
     refine wpAnyH_take (i := 7) (oi := ⟨some 57, .move (.tmp 64), 38, "exact.go:3560", #[⟨6, .data⟩], none⟩) (v := ?_) rfl (by kernel_rfl) (by kernel_rfl) (by kernel_rfl) (fun _ _ _ h => hQ _ _ _ _ _ h) (Or.inl ⟨by rfl, ?_⟩) (by assumption) ?_
     rotate_left
     · intro wq hSw
       (try dsimp only at hSw)
       go_simp
       try with_reducible rfl
     try simp only [Act.put, qA, qB, qC]
     refine wpAnyH_take (i := 8) (oi := ⟨some 65, .extract (.tmp 57) 0, 37, "exact.go:3560", #[⟨7, .data⟩], none⟩) (v := ?_) rfl (by kernel_rfl) (by kernel_rfl) (by kernel_rfl) (fun _ _ _ h => hQ _ _ _ _ _ h) (Or.inl ⟨by rfl, ?_⟩) (by assumption) ?_
     rotate_left
     · intro wq hSw
       (try dsimp only at hSw)
       go_simp
       try with_reducible rfl
     try simp only [Act.put, qA, qB, qC]
     refine wpAnyH_take (i := 9) (oi := ⟨some 66, .extract (.tmp 57) 1, 3, "exact.go:3560", #[⟨7, .data⟩, ⟨11, .gcOnly .lateStores⟩], none⟩) (v := ?_) rfl (by kernel_rfl) (by kernel_rfl) (by kernel_rfl) (fun _ _ _ h => hQ _ _ _ _ _ h) (Or.inl ⟨by rfl, ?_⟩) (by assumption) ?_
     rotate_left
     · intro wq hSw
       (try dsimp only at hSw)
       go_simp
       try with_reducible rfl
     try simp only [Act.put, qA, qB, qC]
     refine wpAnyH_ready (rs := [11]) (by kernel_rfl) (by simp) ?_
     refine AllReadyH.cons (o := ⟨none, .store 37 (.tmp 14) (.tmp 65), 0, "exact.go:3560", #[⟨10, .data⟩, ⟨8, .data⟩, ⟨6, .chain⟩, ⟨0, .phase⟩, ⟨1, .phase⟩, ⟨2, .phase⟩, ⟨3, .phase⟩, ⟨4, .phase⟩, ⟨5, .phase⟩, ⟨6, .phase⟩, ⟨7, .phase⟩, ⟨8, .phase⟩, ⟨9, .textOnly .lateStores⟩, ⟨10, .phase⟩], none⟩) rfl (fun K hK => ?_) AllReadyH.nil
     refine step_store_blk rfl 37 (.tmp 14) (.tmp 65) rfl v1.heap.size 0 rfl [.int .i64 KS.wd, .slice ta' KS.ts.length tc', .slice ra' KS.rs.length rc'] rfl (blk_some bB_v9.out rfl) oB_v9.out (by simp [Value.oneCell']) (by kernel_rfl) rfl ?_
     clear hHeld
     refine st_overT (old := [.int .i64 0, .slice none 0 0, .slice none 0 0]) (N := u.heap.size) rfl bB_v9.out oB_v9.out tB_v9.out (by omega) ?_
     intro E bE ZE OE TE hEs hE
     have kE : Below u.heap.size u E := kv9.trans bE
     have a0E := (kE.cell (p := ⟨b12, 0, none⟩) hb12).trans z0
     have a1E := (kE.cell (p := ⟨b12, 1, none⟩) hb12).trans z1
     have a2E := (kE.cell (p := ⟨b12, 2, none⟩) hb12).trans z2
     have a3E := (kE.cell (p := ⟨b5, 0, none⟩) hb5).trans z3
     have a4E := (kE.cell (p := ⟨b5, 1, none⟩) hb5).trans z4
     have a5E := (kE.cell (p := ⟨b5, 2, none⟩) hb5).trans z5
     have a6E := (kE.cell (p := ⟨b7, 0, none⟩) hb7).trans z6
     have a7E := (kE.cell (p := ⟨b7, 1, none⟩) hb7).trans z7
     have lE := kE.size
     have RE : StOwn E u.heap.size KS.ts KS.rs (.slice ta' KS.ts.length tc') (.slice ra' KS.rs.length rc') := stOwn_keep OW_v9.out (fun q t hT ht => hE q (ofT_lt hT) (fun e => by
      have e2 := ofT_one hT (e ▸ tB_v9.out)
      rcases ht with rfl | rfl | rfl <;> exact absurd e2 (by decide)))
     refine hK.out _ _ ⟨a0E, a1E, a2E, a3E, a4E, a5E, a6E, a7E⟩ (fun hHeld => ?_)
     clear hK K
     try simp only [Act.put, qA, qB, qC]
     refine wpAnyH_take (i := 12) (oi := ⟨some 15, .assign (.tmp 66), 3, "exact.go:3560", #[⟨9, .data⟩, ⟨11, .chain⟩, ⟨0, .phase⟩, ⟨1, .phase⟩, ⟨2, .phase⟩, ⟨3, .phase⟩, ⟨4, .phase⟩, ⟨5, .phase⟩, ⟨6, .phase⟩, ⟨7, .phase⟩, ⟨8, .phase⟩, ⟨9, .phase⟩, ⟨10, .phase⟩, ⟨11, .phase⟩], none⟩) (v := ?_) rfl (by kernel_rfl) (by kernel_rfl) (by kernel_rfl) (fun _ _ _ h => hQ _ _ _ _ _ h) (Or.inl ⟨by rfl, ?_⟩) (by assumption) ?_
     rotate_left
     · intro wq hSw
       (try dsimp only at hSw)
       go_simp
       try with_reducible rfl
     try simp only [Act.put, qA, qB, qC]
     refine wpAnyH_done (by kernel_rfl) ?_ _
     clear hHeld
     exact hKK _ _ _ _ _ _ _ _ _ _ ta' tc' ra' rc' v1.heap.size E kE (by omega) (by have := kE.size; have := bE.size; have := hBl_v9; omega) ZE TE RE
 · go_simp
   have kv10 : Below u.heap.size u ((u.alloc (.cells #[.int .i64 0, .slice none 0 0, .slice none 0 0] 37)).drew) := (ku.alloc lu _).drew
   have bB_v10 : Hid (BlkAt ((u.alloc (.cells #[.int .i64 0, .slice none 0 0, .slice none 0 0] 37)).drew) u.heap.size [.int .i64 0, .slice none 0 0, .slice none 0 0]) := hidI (blk_new u [.int .i64 0, .slice none 0 0, .slice none 0 0] 37)
   have oB_v10 : Hid (OpnAt ((u.alloc (.cells #[.int .i64 0, .slice none 0 0, .slice none 0 0] 37)).drew) u.heap.size) := hidI (opn_new u #[.int .i64 0, .slice none 0 0, .slice none 0 0] 37)
   have tB_v10 : Hid (OfT ((u.alloc (.cells #[.int .i64 0, .slice none 0 0, .slice none 0 0] 37)).drew) u.heap.size 37) := hidI (ofT_new u #[.int .i64 0, .slice none 0 0, .slice none 0 0] 37)
   have hBl_v10 : u.heap.size < ((u.alloc (.cells #[.int .i64 0, .slice none 0 0, .slice none 0 0] 37)).drew).heap.size := by simp
   have hdv10 : Below u.heap.size u ((u.alloc (.cells #[.int .i64 0, .slice none 0 0, .slice none 0 0] 37)).drew) := ((Below.refl _ _).alloc (Nat.le_refl _) _).drew
   have SA_v10 := hidI (strs_below SA0.out hdv10)
   have RA_v10 := hidI (recsS_below RA0.out hdv10)
   have LA_v10 := hidI (lks_below LA0.out hdv10)
   have a0v10 := (kv10.cell (p := ⟨b12, 0, none⟩) hb12).trans z0
   have a1v10 := (kv10.cell (p := ⟨b12, 1, none⟩) hb12).trans z1
   have a2v10 := (kv10.cell (p := ⟨b12, 2, none⟩) hb12).trans z2
   have a3v10 := (kv10.cell (p := ⟨b5, 0, none⟩) hb5).trans z3
   have a4v10 := (kv10.cell (p := ⟨b5, 1, none⟩) hb5).trans z4
   have a5v10 := (kv10.cell (p := ⟨b5, 2, none⟩) hb5).trans z5
   have a6v10 := (kv10.cell (p := ⟨b7, 0, none⟩) hb7).trans z6
   have a7v10 := (kv10.cell (p := ⟨b7, 1, none⟩) hb7).trans z7
   have lv10 := kv10.size
   clear hHeld
   refine hK.out _ _ ⟨a0v10, a1v10, a2v10, a3v10, a4v10, a5v10, a6v10, a7v10⟩ (fun hHeld => ?_)
   clear hK K
   try simp only [Act.put, qA, qB, qC]
   generalize ((u.alloc (.cells #[.int .i64 0, .slice none 0 0, .slice none 0 0] 37)).drew) = v10 at *
   refine wpAnyH_ready (rs := [2]) (by kernel_rfl) (by simp) ?_
   refine AllReadyH.cons (o := ⟨some 60, .call ⟨.value (.func 10), #[.tmp 59], #[27]⟩, 41, "exact.go:3560", #[⟨1, .data⟩], none⟩) rfl (fun K hK => ?_) AllReadyH.nil
   go_simp
   refine (c10 m _).mono ?_
   rintro e v11 ⟨rfl, hcv11⟩
   go_wp2_with fail
   have kv11 : Below u.heap.size u v11 := kv10.trans (hcv11.mono lv10)
   have hdv11 : Below v10.heap.size v10 v11 := hcv11
   have SA_v11 := hidI (strs_below SA_v10.out hdv11)
   have RA_v11 := hidI (recsS_below RA_v10.out hdv11)
   have LA_v11 := hidI (lks_below LA_v10.out hdv11)
   have bB_v11 := hidI (bB_v10.out.below hdv11 hBl_v10)
   have oB_v11 := hidI (oB_v10.out.below hdv11 hBl_v10)
   have tB_v11 := hidI (tB_v10.out.below hdv11 hBl_v10)
   have hBl_v11 := Nat.lt_of_lt_of_le hBl_v10 hdv11.size
   clear SA_v10
   clear RA_v10
   clear LA_v10
   clear bB_v10
   clear oB_v10
   clear tB_v10
   clear hBl_v10
   have a0v11 := (kv11.cell (p := ⟨b12, 0, none⟩) hb12).trans z0
   have a1v11 := (kv11.cell (p := ⟨b12, 1, none⟩) hb12).trans z1
   have a2v11 := (kv11.cell (p := ⟨b12, 2, none⟩) hb12).trans z2
   have a3v11 := (kv11.cell (p := ⟨b5, 0, none⟩) hb5).trans z3
   have a4v11 := (kv11.cell (p := ⟨b5, 1, none⟩) hb5).trans z4
   have a5v11 := (kv11.cell (p := ⟨b5, 2, none⟩) hb5).trans z5
   have a6v11 := (kv11.cell (p := ⟨b7, 0, none⟩) hb7).trans z6
   have a7v11 := (kv11.cell (p := ⟨b7, 1, none⟩) hb7).trans z7
   have lv11 := kv11.size
   clear hHeld
   refine hK.out _ _ ⟨a0v11, a1v11, a2v11, a3v11, a4v11, a5v11, a6v11, a7v11⟩ (fun hHeld => ?_)
   clear hK K
   try simp only [Act.put, qA, qB, qC]
   refine wpAnyH_ready (rs := [5]) (by kernel_rfl) (by simp) ?_
   refine AllReadyH.cons (o := ⟨some 63, .call ⟨.value (.func 12), #[.tmp 62], #[30]⟩, 45, "exact.go:3560", #[⟨4, .data⟩, ⟨2, .chain⟩], none⟩) rfl (fun K hK => ?_) AllReadyH.nil
   go_simp
   refine (c12 c t _).mono ?_
   rintro e v12 ⟨rfl, hcv12⟩
   go_wp2_with fail
   have kv12 : Below u.heap.size u v12 := kv11.trans (hcv12.mono lv11)
   have hdv12 : Below v11.heap.size v11 v12 := hcv12
   have SA_v12 := hidI (strs_below SA_v11.out hdv12)
   have RA_v12 := hidI (recsS_below RA_v11.out hdv12)
   have LA_v12 := hidI (lks_below LA_v11.out hdv12)
   have bB_v12 := hidI (bB_v11.out.below hdv12 hBl_v11)
   have oB_v12 := hidI (oB_v11.out.below hdv12 hBl_v11)
   have tB_v12 := hidI (tB_v11.out.below hdv12 hBl_v11)
   have hBl_v12 := Nat.lt_of_lt_of_le hBl_v11 hdv12.size
   clear SA_v11
   clear RA_v11
   clear LA_v11
   clear bB_v11
   clear oB_v11
   clear tB_v11
   clear hBl_v11
   have a0v12 := (kv12.cell (p := ⟨b12, 0, none⟩) hb12).trans z0
   have a1v12 := (kv12.cell (p := ⟨b12, 1, none⟩) hb12).trans z1
   have a2v12 := (kv12.cell (p := ⟨b12, 2, none⟩) hb12).trans z2
   have a3v12 := (kv12.cell (p := ⟨b5, 0, none⟩) hb5).trans z3
   have a4v12 := (kv12.cell (p := ⟨b5, 1, none⟩) hb5).trans z4
   have a5v12 := (kv12.cell (p := ⟨b5, 2, none⟩) hb5).trans z5
   have a6v12 := (kv12.cell (p := ⟨b7, 0, none⟩) hb7).trans z6
   have a7v12 := (kv12.cell (p := ⟨b7, 1, none⟩) hb7).trans z7
   have lv12 := kv12.size
   clear hHeld
   refine hK.out _ _ ⟨a0v12, a1v12, a2v12, a3v12, a4v12, a5v12, a6v12, a7v12⟩ (fun hHeld => ?_)
   clear hK K
   try simp only [Act.put, qA, qB, qC]
   refine wpAnyH_ready (rs := [6]) (by kernel_rfl) (by simp) ?_
   refine AllReadyH.cons (o := ⟨some 64, .call ⟨.value (.func 13), #[.tmp 58, .tmp 60, .tmp 61, .tmp 63], #[37, 41, 43, 45]⟩, 38, "exact.go:3560", #[⟨0, .data⟩, ⟨2, .data⟩, ⟨3, .data⟩, ⟨5, .data⟩, ⟨5, .chain⟩], none⟩) rfl (fun K hK => ?_) AllReadyH.nil
   go_simp
   refine (hX tb rb q _ kv12 SA_v12.out RA_v12.out LA_v12.out).mono ?_
   rintro e v13 ⟨⟨ta', tc', ra', rc', rfl, how⟩, hcv13⟩
   go_wp2_with fail
   have kv13 : Below u.heap.size u v13 := kv12.trans (hcv13.mono lv12)
   have hdv13 : Below v12.heap.size v12 v13 := hcv13
   have SA_v13 := hidI (strs_below SA_v12.out hdv13)
   have RA_v13 := hidI (recsS_below RA_v12.out hdv13)
   have LA_v13 := hidI (lks_below LA_v12.out hdv13)
   have bB_v13 := hidI (bB_v12.out.below hdv13 hBl_v12)
   have oB_v13 := hidI (oB_v12.out.below hdv13 hBl_v12)
   have tB_v13 := hidI (tB_v12.out.below hdv13 hBl_v12)
   have hBl_v13 := Nat.lt_of_lt_of_le hBl_v12 hdv13.size
   clear SA_v12
   clear RA_v12
   clear LA_v12
   clear bB_v12
   clear oB_v12
   clear tB_v12
   clear hBl_v12
   have OW_v13 : Hid (StOwn v13 u.heap.size KS.ts KS.rs (.slice ta' KS.ts.length tc') (.slice ra' KS.rs.length rc')) := hidI (stOwn_low how (by first | exact lv12 | exact Nat.le_refl _))
   clear how
   have a0v13 := (kv13.cell (p := ⟨b12, 0, none⟩) hb12).trans z0
   have a1v13 := (kv13.cell (p := ⟨b12, 1, none⟩) hb12).trans z1
   have a2v13 := (kv13.cell (p := ⟨b12, 2, none⟩) hb12).trans z2
   have a3v13 := (kv13.cell (p := ⟨b5, 0, none⟩) hb5).trans z3
   have a4v13 := (kv13.cell (p := ⟨b5, 1, none⟩) hb5).trans z4
   have a5v13 := (kv13.cell (p := ⟨b5, 2, none⟩) hb5).trans z5
   have a6v13 := (kv13.cell (p := ⟨b7, 0, none⟩) hb7).trans z6
   have a7v13 := (kv13.cell (p := ⟨b7, 1, none⟩) hb7).trans z7
   have lv13 := kv13.size
   clear hHeld
   refine hK.out _ _ ⟨a0v13, a1v13, a2v13, a3v13, a4v13, a5v13, a6v13, a7v13⟩ (fun hHeld => ?_)
   clear hK K
   try simp only [Act.put, qA, qB, qC]
   refine wpAnyH_take (i := 7) (oi := ⟨some 57, .move (.tmp 64), 38, "exact.go:3560", #[⟨6, .data⟩], none⟩) (v := ?_) rfl (by kernel_rfl) (by kernel_rfl) (by kernel_rfl) (fun _ _ _ h => hQ _ _ _ _ _ h) (Or.inl ⟨by rfl, ?_⟩) (by assumption) ?_
   rotate_left
   · intro wq hSw
     (try dsimp only at hSw)
     go_simp
     try with_reducible rfl
   try simp only [Act.put, qA, qB, qC]
   refine wpAnyH_take (i := 8) (oi := ⟨some 65, .extract (.tmp 57) 0, 37, "exact.go:3560", #[⟨7, .data⟩], none⟩) (v := ?_) rfl (by kernel_rfl) (by kernel_rfl) (by kernel_rfl) (fun _ _ _ h => hQ _ _ _ _ _ h) (Or.inl ⟨by rfl, ?_⟩) (by assumption) ?_
   rotate_left
   · intro wq hSw
     (try dsimp only at hSw)
     go_simp
     try with_reducible rfl
   try simp only [Act.put, qA, qB, qC]
   refine wpAnyH_take (i := 9) (oi := ⟨some 66, .extract (.tmp 57) 1, 3, "exact.go:3560", #[⟨7, .data⟩, ⟨11, .gcOnly .lateStores⟩], none⟩) (v := ?_) rfl (by kernel_rfl) (by kernel_rfl) (by kernel_rfl) (fun _ _ _ h => hQ _ _ _ _ _ h) (Or.inl ⟨by rfl, ?_⟩) (by assumption) ?_
   rotate_left
   · intro wq hSw
     (try dsimp only at hSw)
     go_simp
     try with_reducible rfl
   try simp only [Act.put, qA, qB, qC]
   refine wpAnyH_ready (rs := [11]) (by kernel_rfl) (by simp) ?_
   refine AllReadyH.cons (o := ⟨none, .store 37 (.tmp 14) (.tmp 65), 0, "exact.go:3560", #[⟨10, .data⟩, ⟨8, .data⟩, ⟨6, .chain⟩, ⟨0, .phase⟩, ⟨1, .phase⟩, ⟨2, .phase⟩, ⟨3, .phase⟩, ⟨4, .phase⟩, ⟨5, .phase⟩, ⟨6, .phase⟩, ⟨7, .phase⟩, ⟨8, .phase⟩, ⟨9, .textOnly .lateStores⟩, ⟨10, .phase⟩], none⟩) rfl (fun K hK => ?_) AllReadyH.nil
   refine step_store_blk rfl 37 (.tmp 14) (.tmp 65) rfl u.heap.size 0 rfl [.int .i64 KS.wd, .slice ta' KS.ts.length tc', .slice ra' KS.rs.length rc'] rfl (blk_some bB_v13.out rfl) oB_v13.out (by simp [Value.oneCell']) (by kernel_rfl) rfl ?_
   clear hHeld
   refine st_overT (old := [.int .i64 0, .slice none 0 0, .slice none 0 0]) (N := u.heap.size) rfl bB_v13.out oB_v13.out tB_v13.out (by omega) ?_
   intro E bE ZE OE TE hEs hE
   have kE : Below u.heap.size u E := kv13.trans bE
   have a0E := (kE.cell (p := ⟨b12, 0, none⟩) hb12).trans z0
   have a1E := (kE.cell (p := ⟨b12, 1, none⟩) hb12).trans z1
   have a2E := (kE.cell (p := ⟨b12, 2, none⟩) hb12).trans z2
   have a3E := (kE.cell (p := ⟨b5, 0, none⟩) hb5).trans z3
   have a4E := (kE.cell (p := ⟨b5, 1, none⟩) hb5).trans z4
   have a5E := (kE.cell (p := ⟨b5, 2, none⟩) hb5).trans z5
   have a6E := (kE.cell (p := ⟨b7, 0, none⟩) hb7).trans z6
   have a7E := (kE.cell (p := ⟨b7, 1, none⟩) hb7).trans z7
   have lE := kE.size
   have RE : StOwn E u.heap.size KS.ts KS.rs (.slice ta' KS.ts.length tc') (.slice ra' KS.rs.length rc') := stOwn_keep OW_v13.out (fun q t hT ht => hE q (ofT_lt hT) (fun e => by
    have e2 := ofT_one hT (e ▸ tB_v13.out)
    rcases ht with rfl | rfl | rfl <;> exact absurd e2 (by decide)))
   refine hK.out _ _ ⟨a0E, a1E, a2E, a3E, a4E, a5E, a6E, a7E⟩ (fun hHeld => ?_)
   clear hK K
   try simp only [Act.put, qA, qB, qC]
   refine wpAnyH_take (i := 12) (oi := ⟨some 15, .assign (.tmp 66), 3, "exact.go:3560", #[⟨9, .data⟩, ⟨11, .chain⟩, ⟨0, .phase⟩, ⟨1, .phase⟩, ⟨2, .phase⟩, ⟨3, .phase⟩, ⟨4, .phase⟩, ⟨5, .phase⟩, ⟨6, .phase⟩, ⟨7, .phase⟩, ⟨8, .phase⟩, ⟨9, .phase⟩, ⟨10, .phase⟩, ⟨11, .phase⟩], none⟩) (v := ?_) rfl (by kernel_rfl) (by kernel_rfl) (by kernel_rfl) (fun _ _ _ h => hQ _ _ _ _ _ h) (Or.inl ⟨by rfl, ?_⟩) (by assumption) ?_
   rotate_left
   · intro wq hSw
     (try dsimp only at hSw)
     go_simp
     try with_reducible rfl
   try simp only [Act.put, qA, qB, qC]
   refine wpAnyH_done (by kernel_rfl) ?_ _
   clear hHeld
   exact hKK _ _ _ _ _ _ _ _ _ _ ta' tc' ra' rc' u.heap.size E kE (by omega) (by have := kE.size; have := bE.size; have := hBl_v13; omega) ZE TE RE
end Go.Proofs.YtkhlekmicpmpkaaGreatDoor
