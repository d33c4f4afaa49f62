import Derived.Test.YtboojefodbjbcaaGreatDoorZR00
import Derived.Test.YtboojefodbjbcaaGreatDoorRG
import Derived.Test.YtboojefodbjbcaaGreatDoorZR29
import Derived.Test.YtboojefodbjbcaaGreatDoorZR44
namespace Go.Proofs.YtboojefodbjbcaaGreatDoor
open Go.RowKit Go.Maps
set_option maxRecDepth 100000
set_option linter.unusedVariables false
set_option linter.unusedSimpArgs false
set_option maxHeartbeats 16000000 in
theorem rl14 {K : Act → World → Prop} {Q : Exit → Act → World → Prop} {d0 d1 d2 d7 d8 d9 d10 d11 d12 d13 d14 d15 d16 d17 d18 d19 d20 d21 d22 d23 d24 d25 d26 d27 d28 d29 d30 d31 d32 d33 d34 d35 d36 d37 d38 d39 d40 d41 d42 d43 d44 d45 d46 d47 d48 d49 d50 d51 d52 d53 d54 d55 d56 d57 d58 d59 d60 d61 d62 d63 d64 d65 d66 d67 d68 d69 d70 d71 d72 d73 d74 d75 d76 d77 d78 d79 d80 d81 d82 d83 d84 d85 d86 d87 d88 d89 d90 d91 d92 d93 d94 d95 d96 d97 d98 d99 d100 d101 d102 d103 d104 d105 d106 d107 d108 d109 d110 d111 d112 d113 d114 d115 d116 d117 d118 d119 d120 d121 d122 d123 d124 d125 d126 d127 d128 d129 d130 d131 d132 d133 d134 d135 d136 d137 d138 d139 d140 d141 d142 d143 d144 d145 d146 d147 d148 d149 d150 d151 d152 d153 d154 d155 d156 d157 : Value} {s : St} {fs : List G.T.F2} {m : M3} {ds : List G.D8} {A : An} {b4 b5 b6 : Nat} {u : World} {ta ra a da : Option Addr} {tc rc cap dc : Nat} (hb4 : b4 < u.heap.size) (hb5 : b5 < u.heap.size) (hb6 : b6 < u.heap.size) (z0 : u.cell? ⟨b4, 0, none⟩ = some (.int .i64 s.wd)) (z1 : u.cell? ⟨b4, 1, none⟩ = some (.slice ta s.ts.length tc)) (z2 : u.cell? ⟨b4, 2, none⟩ = some (.slice ra s.rs.length rc)) (z3 : u.cell? ⟨b5, 0, none⟩ = some (.slice a fs.length cap)) (z4 : u.cell? ⟨b6, 0, none⟩ = some (.string m.nm)) (z5 : u.cell? ⟨b6, 1, none⟩ = some (.string m.tl)) (z6 : u.cell? ⟨b6, 2, none⟩ = some (.string m.ar)) (h9 : ∀ v, Below u.heap.size u v → Calls Tryz.prog 9 #[.agg #[.int .i64 s.wd, .slice ta s.ts.length tc, .slice ra s.rs.length rc]] v fun e w' => (∃ tb rb, e = .returned (.agg #[.int .i64 s.wd, .slice (some ⟨tb, 0, none⟩) s.ts.length s.ts.length, .slice (some ⟨rb, 0, none⟩) s.rs.length s.rs.length]) ∧ StAt w' (some ⟨tb, 0, none⟩) (some ⟨rb, 0, none⟩) s) ∧ Below v.heap.size v w') (h10 : ∀ v, Below u.heap.size u v → Calls Tryz.prog 10 #[.agg #[.slice a fs.length cap]] v fun e w' => (∃ g, e = .returned (.agg #[.slice (some ⟨g, 0, none⟩) fs.length fs.length]) ∧ G.T.FilesAt w' (some ⟨g, 0, none⟩) fs) ∧ Below v.heap.size v w') (h12 : ∀ v, Below u.heap.size u v → Calls Tryz.prog 12 #[.slice da ds.length dc] v fun e w' => (∃ q, e = .returned (.slice (some ⟨q, 0, none⟩) ds.length ds.length) ∧ G.DeedsAt w' (some ⟨q, 0, none⟩) ds) ∧ Below v.heap.size v w') (hX : ∀ tb rb g q v, Below u.heap.size u v → StAt v (some ⟨tb, 0, none⟩) (some ⟨rb, 0, none⟩) s → G.T.FilesAt v (some ⟨g, 0, none⟩) fs → G.DeedsAt v (some ⟨q, 0, none⟩) ds → Calls Tryz.prog 8 #[.agg #[.int .i64 s.wd, .slice (some ⟨tb, 0, none⟩) s.ts.length s.ts.length, .slice (some ⟨rb, 0, none⟩) s.rs.length s.rs.length], .agg #[.slice (some ⟨g, 0, none⟩) fs.length fs.length], .agg #[.string m.nm, .string m.tl, .string m.ar], .slice (some ⟨q, 0, none⟩) ds.length ds.length] v fun e w' => (∃ av cv, e = .returned (.tuple #[.agg #[.bool A.ov, .int .i64 A.cd, .string A.tx, .bool false, .string A.nm, .int .i64 0], (.slice av A.ls.length cv)]) ∧ w'.ownsRow v.heap.size 108 4 (.slice av A.ls.length cv) A.ls.length (lC A.ls)) ∧ Below v.heap.size v w')
 (hQ : ∀ (d : Nat) v c (a : Act) w, Q (.panic c) (a.put (some d) v) w → Q (.panic c) a w) (hKK : ∀ (y43 y44 y45 y46 y47 y48 y49 y50 y51 y42 y52 y53 : Value) (av : Option Addr) (cv B : Nat) (E : World), Below u.heap.size u E → u.heap.size ≤ B → B < E.heap.size → BlkAt E B [.bool A.ov, .int .i64 A.cd, .string A.tx, .bool false, .string A.nm, .int .i64 0] → OfT E B 39 → E.ownsRow u.heap.size 108 4 (.slice av A.ls.length cv) A.ls.length (lC A.ls) → K { tmps := #[d0, d1, d2, .slice da ds.length dc, .pointer (some ⟨b4, 0, none⟩), .pointer (some ⟨b5, 0, none⟩), .pointer (some ⟨b6, 0, none⟩), d7, d8, d9, .pointer (some ⟨B, 0, none⟩), .slice av A.ls.length cv, d12, d13, d14, d15, d16, d17, d18, d19, d20, d21, d22, d23, d24, d25, d26, d27, d28, d29, d30, d31, d32, d33, d34, d35, d36, d37, d38, d39, d40, d41, y42, y43, y44, y45, y46, y47, y48, y49, y50, y51, y52, y53, d54, d55, d56, d57, d58, d59, d60, d61, d62, d63, d64, d65, d66, d67, d68, d69, d70, d71, d72, d73, d74, d75, d76, d77, d78, d79, d80, d81, d82, d83, d84, d85, d86, d87, d88, d89, d90, d91, d92, d93, d94, d95, d96, d97, d98, d99, d100, d101, d102, d103, d104, d105, d106, d107, d108, d109, d110, d111, d112, d113, d114, d115, d116, d117, d118, d119, d120, d121, d122, d123, d124, d125, d126, d127, d128, d129, d130, d131, d132, d133, d134, d135, d136, d137, d138, d139, d140, d141, d142, d143, d144, d145, d146, d147, d148, d149, d150, d151, d152, d153, d154, d155, d156, d157], defers := [] } E) :
 Code.wp Tryz.prog (Code.region 14 #[⟨some 43, .load 25 (.tmp 4), 25, "exact.go:3620", #[], none⟩, ⟨some 44, .call ⟨.value (.func 9), #[.tmp 43], #[25]⟩, 45, "exact.go:3620", #[⟨0, .data⟩], none⟩, ⟨some 45, .load 28 (.tmp 5), 28, "exact.go:3620", #[], none⟩, ⟨some 46, .call ⟨.value (.func 10), #[.tmp 45], #[28]⟩, 49, "exact.go:3620", #[⟨2, .data⟩, ⟨1, .chain⟩], none⟩, ⟨some 47, .load 30 (.tmp 6), 30, "exact.go:3620", #[], none⟩, ⟨some 48, .call ⟨.value (.func 11), #[.tmp 47], #[30]⟩, 51, "exact.go:3620", #[⟨4, .data⟩, ⟨3, .chain⟩], none⟩, ⟨some 49, .move (.tmp 3), 31, "exact.go:3620", #[], none⟩, ⟨some 50, .call ⟨.value (.func 12), #[.tmp 49], #[31]⟩, 53, "exact.go:3620", #[⟨6, .data⟩, ⟨5, .chain⟩], none⟩, ⟨some 51, .call ⟨.value (.func 8), #[.tmp 44, .tmp 46, .tmp 48, .tmp 50], #[45, 49, 51, 53]⟩, 41, "exact.go:3620", #[⟨1, .data⟩, ⟨3, .data⟩, ⟨5, .data⟩, ⟨7, .data⟩, ⟨7, .chain⟩], none⟩, ⟨some 42, .move (.tmp 51), 41, "exact.go:3620", #[⟨8, .data⟩], none⟩, ⟨some 52, .extract (.tmp 42) 0, 39, "exact.go:3620", #[⟨9, .data⟩], none⟩, ⟨some 53, .extract (.tmp 42) 1, 40, "exact.go:3620", #[⟨9, .data⟩, ⟨13, .gcOnly .lateStores⟩], none⟩, ⟨some 10, .alloc 39, 0, "exact.go:3620", #[], none⟩, ⟨none, .store 39 (.tmp 10) (.tmp 52), 0, "exact.go:3620", #[⟨12, .data⟩, ⟨10, .data⟩, ⟨8, .chain⟩, ⟨0, .phase⟩, ⟨1, .phase⟩, ⟨2, .phase⟩, ⟨3, .phase⟩, ⟨4, .phase⟩, ⟨5, .phase⟩, ⟨6, .phase⟩, ⟨7, .phase⟩, ⟨8, .phase⟩, ⟨9, .phase⟩, ⟨10, .phase⟩, ⟨11, .textOnly .lateStores⟩, ⟨12, .phase⟩], none⟩, ⟨some 11, .assign (.tmp 53), 40, "exact.go:3620", #[⟨11, .data⟩, ⟨13, .chain⟩, ⟨0, .phase⟩, ⟨1, .phase⟩, ⟨2, .phase⟩, ⟨3, .phase⟩, ⟨4, .phase⟩, ⟨5, .phase⟩, ⟨6, .phase⟩, ⟨7, .phase⟩, ⟨8, .phase⟩, ⟨9, .phase⟩, ⟨10, .phase⟩, ⟨11, .phase⟩, ⟨12, .phase⟩, ⟨13, .phase⟩], none⟩] true) (Exit.then K Q) { tmps := #[d0, d1, d2, .slice da ds.length dc, .pointer (some ⟨b4, 0, none⟩), .pointer (some ⟨b5, 0, none⟩), .pointer (some ⟨b6, 0, none⟩), d7, d8, d9, d10, d11, d12, d13, d14, d15, d16, d17, d18, d19, d20, d21, d22, d23, d24, d25, d26, d27, d28, d29, d30, d31, d32, d33, d34, d35, d36, d37, d38, d39, d40, d41, d42, d43, d44, d45, d46, d47, d48, d49, d50, d51, d52, d53, d54, d55, d56, d57, d58, d59, d60, d61, d62, d63, d64, d65, d66, d67, d68, d69, d70, d71, d72, d73, d74, d75, d76, d77, d78, d79, d80, d81, d82, d83, d84, d85, d86, d87, d88, d89, d90, d91, d92, d93, d94, d95, d96, d97, d98, d99, d100, d101, d102, d103, d104, d105, d106, d107, d108, d109, d110, d111, d112, d113, d114, d115, d116, d117, d118, d119, d120, d121, d122, d123, d124, d125, d126, d127, d128, d129, d130, d131, d132, d133, d134, d135, d136, d137, d138, d139, d140, d141, d142, d143, d144, d145, d146, d147, d148, d149, d150, d151, d152, d153, d154, d155, d156, d157], defers := [] } u := by
 have ku : Below u.heap.size u u := Below.refl _ _
 have lu : u.heap.size ≤ u.heap.size := Nat.le_refl _
 refine wp_region_held_drew (S := (fun u => u.cell? ⟨b4, 0, none⟩ = some (.int .i64 s.wd) ∧ u.cell? ⟨b4, 1, none⟩ = some (.slice ta s.ts.length tc) ∧ u.cell? ⟨b4, 2, none⟩ = some (.slice ra s.rs.length rc) ∧ u.cell? ⟨b5, 0, none⟩ = some (.slice a fs.length cap) ∧ u.cell? ⟨b6, 0, none⟩ = some (.string m.nm) ∧ u.cell? ⟨b6, 1, none⟩ = some (.string m.tl) ∧ u.cell? ⟨b6, 2, none⟩ = some (.string m.ar))) (by kernel_rfl) ?_ (fun hHeld => ?_)
 · exact ⟨z0, z1, z2, z3, z4, z5, z6⟩
 refine tk (i := 0) (oi := ⟨some 43, .load 25 (.tmp 4), 25, _, _, none⟩) (v := ?_) (hQ := fun _ _ _ h => hQ _ _ _ _ _ h) rfl (by kernel_rfl) rfl ?e hHeld ?_
 case e => intro wq hSw; (try dsimp only at hSw); go_simp; try with_reducible rfl
 try simp only [qq]
 refine tk (i := 2) (oi := ⟨some 45, .load 28 (.tmp 5), 28, _, _, none⟩) (v := ?_) (hQ := fun _ _ _ h => hQ _ _ _ _ _ h) rfl (by kernel_rfl) rfl ?e hHeld ?_
 case e => intro wq hSw; (try dsimp only at hSw); go_simp; try with_reducible rfl
 try simp only [qq]
 refine tk (i := 4) (oi := ⟨some 47, .load 30 (.tmp 6), 30, _, _, none⟩) (v := ?_) (hQ := fun _ _ _ h => hQ _ _ _ _ _ h) rfl (by kernel_rfl) rfl ?e hHeld ?_
 case e => intro wq hSw; (try dsimp only at hSw); go_simp; try with_reducible rfl
 try simp only [qq]
 refine tk (i := 6) (oi := ⟨some 49, .move (.tmp 3), 31, _, _, none⟩) (v := ?_) (hQ := fun _ _ _ h => hQ _ _ _ _ _ h) rfl (by kernel_rfl) rfl ?e hHeld ?_
 case e => intro wq hSw; (try dsimp only at hSw); go_simp; try with_reducible rfl
 try simp only [qq]
 refine wpAnyH_ready (rs := [1, 12]) (by kernel_rfl) (by simp) ?_
 refine AllReadyH.cons (o := ⟨some 44, .call ⟨.value (.func 9), #[.tmp 43], #[25]⟩, 45, _, _, none⟩) rfl (fun K hK => ?_) (AllReadyH.cons (o := ⟨some 10, .alloc 39, 0, _, _, none⟩) rfl (fun K hK => ?_) AllReadyH.nil)
 · go_simp
   refine (h9 _ ku.drew).mono ?_
   rintro e v1 ⟨⟨tb, rb, rfl, hsa⟩, hcv1⟩
   go_wp2_with fail
   have kv1 : Below u.heap.size u v1 := ku.drew.trans hcv1
   have hdv1 : Below u.heap.size u v1 := ku.drew.trans hcv1
   have SA_v1 := hidI hsa
   clear hsa
   have a0v1 := (kv1.cell (p := ⟨b4, 0, none⟩) hb4).trans z0
   have a1v1 := (kv1.cell (p := ⟨b4, 1, none⟩) hb4).trans z1
   have a2v1 := (kv1.cell (p := ⟨b4, 2, none⟩) hb4).trans z2
   have a3v1 := (kv1.cell (p := ⟨b5, 0, none⟩) hb5).trans z3
   have a4v1 := (kv1.cell (p := ⟨b6, 0, none⟩) hb6).trans z4
   have a5v1 := (kv1.cell (p := ⟨b6, 1, none⟩) hb6).trans z5
   have a6v1 := (kv1.cell (p := ⟨b6, 2, none⟩) hb6).trans z6
   have lv1 := kv1.size
   clear hHeld
   refine hK.out _ _ ⟨a0v1, a1v1, a2v1, a3v1, a4v1, a5v1, a6v1⟩ (fun hHeld => ?_)
   clear hK K
   try simp only [qq]
   refine wpAnyH_ready (rs := [3, 12]) (by kernel_rfl) (by simp) ?_
   refine AllReadyH.cons (o := ⟨some 46, .call ⟨.value (.func 10), #[.tmp 45], #[28]⟩, 49, _, _, none⟩) rfl (fun K hK => ?_) (AllReadyH.cons (o := ⟨some 10, .alloc 39, 0, _, _, none⟩) rfl (fun K hK => ?_) AllReadyH.nil)
   · go_simp
     refine (h10 _ kv1).mono ?_
     rintro e v2 ⟨⟨g, rfl, hfa⟩, hcv2⟩
     go_wp2_with fail
     have kv2 : Below u.heap.size u v2 := kv1.trans (hcv2.mono lv1)
     have hdv2 : Below v1.heap.size v1 v2 := hcv2
     have SA_v2 := hidI (SA_v1.out.below hdv2)
     clear SA_v1
     have FA_v2 := hidI hfa
     clear hfa
     have a0v2 := (kv2.cell (p := ⟨b4, 0, none⟩) hb4).trans z0
     have a1v2 := (kv2.cell (p := ⟨b4, 1, none⟩) hb4).trans z1
     have a2v2 := (kv2.cell (p := ⟨b4, 2, none⟩) hb4).trans z2
     have a3v2 := (kv2.cell (p := ⟨b5, 0, none⟩) hb5).trans z3
     have a4v2 := (kv2.cell (p := ⟨b6, 0, none⟩) hb6).trans z4
     have a5v2 := (kv2.cell (p := ⟨b6, 1, none⟩) hb6).trans z5
     have a6v2 := (kv2.cell (p := ⟨b6, 2, none⟩) hb6).trans z6
     have lv2 := kv2.size
     clear hHeld
     refine hK.out _ _ ⟨a0v2, a1v2, a2v2, a3v2, a4v2, a5v2, a6v2⟩ (fun hHeld => ?_)
     clear hK K
     try simp only [qq]
     refine wpAnyH_ready (rs := [5, 12]) (by kernel_rfl) (by simp) ?_
     refine AllReadyH.cons (o := ⟨some 48, .call ⟨.value (.func 11), #[.tmp 47], #[30]⟩, 51, _, _, none⟩) rfl (fun K hK => ?_) (AllReadyH.cons (o := ⟨some 10, .alloc 39, 0, _, _, none⟩) rfl (fun K hK => ?_) AllReadyH.nil)
     · go_simp
       refine (c11 m _).mono ?_
       rintro e v3 ⟨rfl, hcv3⟩
       go_wp2_with fail
       have kv3 : Below u.heap.size u v3 := kv2.trans (hcv3.mono lv2)
       have hdv3 : Below v2.heap.size v2 v3 := hcv3
       have SA_v3 := hidI (SA_v2.out.below hdv3)
       have FA_v3 := hidI (G.T.files_below FA_v2.out hdv3)
       clear SA_v2
       clear FA_v2
       have a0v3 := (kv3.cell (p := ⟨b4, 0, none⟩) hb4).trans z0
       have a1v3 := (kv3.cell (p := ⟨b4, 1, none⟩) hb4).trans z1
       have a2v3 := (kv3.cell (p := ⟨b4, 2, none⟩) hb4).trans z2
       have a3v3 := (kv3.cell (p := ⟨b5, 0, none⟩) hb5).trans z3
       have a4v3 := (kv3.cell (p := ⟨b6, 0, none⟩) hb6).trans z4
       have a5v3 := (kv3.cell (p := ⟨b6, 1, none⟩) hb6).trans z5
       have a6v3 := (kv3.cell (p := ⟨b6, 2, none⟩) hb6).trans z6
       have lv3 := kv3.size
       clear hHeld
       refine hK.out _ _ ⟨a0v3, a1v3, a2v3, a3v3, a4v3, a5v3, a6v3⟩ (fun hHeld => ?_)
       clear hK K
       try simp only [qq]
       refine wpAnyH_ready (rs := [7, 12]) (by kernel_rfl) (by simp) ?_
       refine AllReadyH.cons (o := ⟨some 50, .call ⟨.value (.func 12), #[.tmp 49], #[31]⟩, 53, _, _, none⟩) rfl (fun K hK => ?_) (AllReadyH.cons (o := ⟨some 10, .alloc 39, 0, _, _, none⟩) rfl (fun K hK => ?_) AllReadyH.nil)
       · go_simp
         refine (h12 _ kv3).mono ?_
         rintro e v4 ⟨⟨q, rfl, hda⟩, hcv4⟩
         go_wp2_with fail
         have kv4 : Below u.heap.size u v4 := kv3.trans (hcv4.mono lv3)
         have hdv4 : Below v3.heap.size v3 v4 := hcv4
         have SA_v4 := hidI (SA_v3.out.below hdv4)
         have FA_v4 := hidI (G.T.files_below FA_v3.out hdv4)
         clear SA_v3
         clear FA_v3
         have DA_v4 := hidI hda
         clear hda
         have a0v4 := (kv4.cell (p := ⟨b4, 0, none⟩) hb4).trans z0
         have a1v4 := (kv4.cell (p := ⟨b4, 1, none⟩) hb4).trans z1
         have a2v4 := (kv4.cell (p := ⟨b4, 2, none⟩) hb4).trans z2
         have a3v4 := (kv4.cell (p := ⟨b5, 0, none⟩) hb5).trans z3
         have a4v4 := (kv4.cell (p := ⟨b6, 0, none⟩) hb6).trans z4
         have a5v4 := (kv4.cell (p := ⟨b6, 1, none⟩) hb6).trans z5
         have a6v4 := (kv4.cell (p := ⟨b6, 2, none⟩) hb6).trans z6
         have lv4 := kv4.size
         clear hHeld
         refine hK.out _ _ ⟨a0v4, a1v4, a2v4, a3v4, a4v4, a5v4, a6v4⟩ (fun hHeld => ?_)
         clear hK K
         try simp only [qq]
         refine wpAnyH_ready (rs := [8, 12]) (by kernel_rfl) (by simp) ?_
         refine AllReadyH.cons (o := ⟨some 51, .call ⟨.value (.func 8), #[.tmp 44, .tmp 46, .tmp 48, .tmp 50], #[45, 49, 51, 53]⟩, 41, _, _, none⟩) rfl (fun K hK => ?_) (AllReadyH.cons (o := ⟨some 10, .alloc 39, 0, _, _, none⟩) rfl (fun K hK => ?_) AllReadyH.nil)
         · go_simp
           refine (hX tb rb g q _ kv4 SA_v4.out FA_v4.out DA_v4.out).mono ?_
           rintro e v5 ⟨⟨av, cv, rfl, how⟩, hcv5⟩
           go_wp2_with fail
           have kv5 : Below u.heap.size u v5 := kv4.trans (hcv5.mono lv4)
           have hdv5 : Below v4.heap.size v4 v5 := hcv5
           have SA_v5 := hidI (SA_v4.out.below hdv5)
           have FA_v5 := hidI (G.T.files_below FA_v4.out hdv5)
           have DA_v5 := hidI (G.deeds_below DA_v4.out hdv5)
           clear SA_v4
           clear FA_v4
           clear DA_v4
           have OW_v5 : Hid (v5.ownsRow u.heap.size 108 4 (.slice av A.ls.length cv) A.ls.length (lC A.ls)) := hidI (own_low how (by first | exact lv4 | exact Nat.le_refl _))
           clear how
           have a0v5 := (kv5.cell (p := ⟨b4, 0, none⟩) hb4).trans z0
           have a1v5 := (kv5.cell (p := ⟨b4, 1, none⟩) hb4).trans z1
           have a2v5 := (kv5.cell (p := ⟨b4, 2, none⟩) hb4).trans z2
           have a3v5 := (kv5.cell (p := ⟨b5, 0, none⟩) hb5).trans z3
           have a4v5 := (kv5.cell (p := ⟨b6, 0, none⟩) hb6).trans z4
           have a5v5 := (kv5.cell (p := ⟨b6, 1, none⟩) hb6).trans z5
           have a6v5 := (kv5.cell (p := ⟨b6, 2, none⟩) hb6).trans z6
           have lv5 := kv5.size
           clear hHeld
           refine hK.out _ _ ⟨a0v5, a1v5, a2v5, a3v5, a4v5, a5v5, a6v5⟩ (fun hHeld => ?_)
           clear hK K
           try simp only [qq]
           refine tk (i := 9) (oi := ⟨some 42, .move (.tmp 51), 41, _, _, none⟩) (v := ?_) (hQ := fun _ _ _ h => hQ _ _ _ _ _ h) rfl (by kernel_rfl) rfl ?e hHeld ?_
           case e => intro wq hSw; (try dsimp only at hSw); go_simp; try with_reducible rfl
           try simp only [qq]
           refine tk (i := 10) (oi := ⟨some 52, .extract (.tmp 42) 0, 39, _, _, none⟩) (v := ?_) (hQ := fun _ _ _ h => hQ _ _ _ _ _ h) rfl (by kernel_rfl) rfl ?e hHeld ?_
           case e => intro wq hSw; (try dsimp only at hSw); go_simp; try with_reducible rfl
           try simp only [qq]
           refine tk (i := 11) (oi := ⟨some 53, .extract (.tmp 42) 1, 40, _, _, none⟩) (v := ?_) (hQ := fun _ _ _ h => hQ _ _ _ _ _ h) rfl (by kernel_rfl) rfl ?e hHeld ?_
           case e => intro wq hSw; (try dsimp only at hSw); go_simp; try with_reducible rfl
           try simp only [qq]
           refine rd (i := 12) (o := ⟨some 10, .alloc 39, 0, _, _, none⟩) rfl (by kernel_rfl) (fun K hK => ?_)
           go_simp
           have kv6 : Below u.heap.size u (v5.alloc (.cells #[.bool false, .int .i64 0, .string ⟨#[]⟩, .bool false, .string ⟨#[]⟩, .int .i64 0] 39)) := (kv5.alloc lv5 _)
           have bB_v6 : Hid (BlkAt (v5.alloc (.cells #[.bool false, .int .i64 0, .string ⟨#[]⟩, .bool false, .string ⟨#[]⟩, .int .i64 0] 39)) v5.heap.size [.bool false, .int .i64 0, .string ⟨#[]⟩, .bool false, .string ⟨#[]⟩, .int .i64 0]) := hidI (blk_new v5 [.bool false, .int .i64 0, .string ⟨#[]⟩, .bool false, .string ⟨#[]⟩, .int .i64 0] 39)
           have oB_v6 : Hid (OpnAt (v5.alloc (.cells #[.bool false, .int .i64 0, .string ⟨#[]⟩, .bool false, .string ⟨#[]⟩, .int .i64 0] 39)) v5.heap.size) := hidI (opn_new v5 #[.bool false, .int .i64 0, .string ⟨#[]⟩, .bool false, .string ⟨#[]⟩, .int .i64 0] 39)
           have tB_v6 : Hid (OfT (v5.alloc (.cells #[.bool false, .int .i64 0, .string ⟨#[]⟩, .bool false, .string ⟨#[]⟩, .int .i64 0] 39)) v5.heap.size 39) := hidI (ofT_new v5 #[.bool false, .int .i64 0, .string ⟨#[]⟩, .bool false, .string ⟨#[]⟩, .int .i64 0] 39)
           have hBl_v6 : v5.heap.size < (v5.alloc (.cells #[.bool false, .int .i64 0, .string ⟨#[]⟩, .bool false, .string ⟨#[]⟩, .int .i64 0] 39)).heap.size := by simp
           have hdv6 : Below v5.heap.size v5 (v5.alloc (.cells #[.bool false, .int .i64 0, .string ⟨#[]⟩, .bool false, .string ⟨#[]⟩, .int .i64 0] 39)) := (Below.refl _ _).alloc (Nat.le_refl _) _
           have SA_v6 := hidI (SA_v5.out.below hdv6)
           have FA_v6 := hidI (G.T.files_below FA_v5.out hdv6)
           have DA_v6 := hidI (G.deeds_below DA_v5.out hdv6)
           have OW_v6 := hidI (own_below OW_v5.out hdv6)
           clear SA_v5
           clear FA_v5
           clear DA_v5
           clear OW_v5
           have a0v6 := (kv6.cell (p := ⟨b4, 0, none⟩) hb4).trans z0
           have a1v6 := (kv6.cell (p := ⟨b4, 1, none⟩) hb4).trans z1
           have a2v6 := (kv6.cell (p := ⟨b4, 2, none⟩) hb4).trans z2
           have a3v6 := (kv6.cell (p := ⟨b5, 0, none⟩) hb5).trans z3
           have a4v6 := (kv6.cell (p := ⟨b6, 0, none⟩) hb6).trans z4
           have a5v6 := (kv6.cell (p := ⟨b6, 1, none⟩) hb6).trans z5
           have a6v6 := (kv6.cell (p := ⟨b6, 2, none⟩) hb6).trans z6
           have lv6 := kv6.size
           clear hHeld
           refine hK.out _ _ ⟨a0v6, a1v6, a2v6, a3v6, a4v6, a5v6, a6v6⟩ (fun hHeld => ?_)
           clear hK K
           try simp only [qq]
           generalize (v5.alloc (.cells #[.bool false, .int .i64 0, .string ⟨#[]⟩, .bool false, .string ⟨#[]⟩, .int .i64 0] 39)) = v6 at *
           refine rd (i := 13) (o := ⟨none, .store 39 (.tmp 10) (.tmp 52), 0, _, _, none⟩) rfl (by kernel_rfl) (fun K hK => ?_)
           refine step_store_blk rfl 39 (.tmp 10) (.tmp 52) rfl v5.heap.size 0 rfl [.bool A.ov, .int .i64 A.cd, .string A.tx, .bool false, .string A.nm, .int .i64 0] rfl (blk_some bB_v6.out rfl) oB_v6.out (by simp [Value.oneCell']) (by kernel_rfl) rfl ?_
           clear hHeld
           refine st_overT (old := [.bool false, .int .i64 0, .string ⟨#[]⟩, .bool false, .string ⟨#[]⟩, .int .i64 0]) (N := u.heap.size) rfl bB_v6.out oB_v6.out tB_v6.out (by omega) ?_
           intro E bE ZE OE TE hEs hE
           have kE : Below u.heap.size u E := kv6.trans bE
           have a0E := (kE.cell (p := ⟨b4, 0, none⟩) hb4).trans z0
           have a1E := (kE.cell (p := ⟨b4, 1, none⟩) hb4).trans z1
           have a2E := (kE.cell (p := ⟨b4, 2, none⟩) hb4).trans z2
           have a3E := (kE.cell (p := ⟨b5, 0, none⟩) hb5).trans z3
           have a4E := (kE.cell (p := ⟨b6, 0, none⟩) hb6).trans z4
           have a5E := (kE.cell (p := ⟨b6, 1, none⟩) hb6).trans z5
           have a6E := (kE.cell (p := ⟨b6, 2, none⟩) hb6).trans z6
           have lE := kE.size
           have RE : E.ownsRow u.heap.size 108 4 (.slice av A.ls.length cv) A.ls.length (lC A.ls) := own_keep' OW_v6.out (fun q hq => hE q (ofT_lt (own_ofT OW_v6.out hq)) (fun e => by
            have e2 := ofT_one (own_ofT OW_v6.out hq) (e ▸ tB_v6.out)
            exact absurd e2 (by decide)))
           refine hK.out _ _ ⟨a0E, a1E, a2E, a3E, a4E, a5E, a6E⟩ (fun hHeld => ?_)
           clear hK K
           try simp only [qq]
           refine tk (i := 14) (oi := ⟨some 11, .assign (.tmp 53), 40, _, _, none⟩) (v := ?_) (hQ := fun _ _ _ h => hQ _ _ _ _ _ h) rfl (by kernel_rfl) rfl ?e hHeld ?_
           case e => intro wq hSw; (try dsimp only at hSw); go_simp; try with_reducible rfl
           try simp only [qq]
           refine wpAnyH_done (by kernel_rfl) ?_ _
           clear hHeld
           exact hKK _ _ _ _ _ _ _ _ _ _ _ _ av cv v5.heap.size E kE (by omega) (by have := kE.size; have := bE.size; have := hBl_v6; omega) ZE TE RE
         · go_simp
           have kv7 : Below u.heap.size u (v4.alloc (.cells #[.bool false, .int .i64 0, .string ⟨#[]⟩, .bool false, .string ⟨#[]⟩, .int .i64 0] 39)) := (kv4.alloc lv4 _)
           have bB_v7 : Hid (BlkAt (v4.alloc (.cells #[.bool false, .int .i64 0, .string ⟨#[]⟩, .bool false, .string ⟨#[]⟩, .int .i64 0] 39)) v4.heap.size [.bool false, .int .i64 0, .string ⟨#[]⟩, .bool false, .string ⟨#[]⟩, .int .i64 0]) := hidI (blk_new v4 [.bool false, .int .i64 0, .string ⟨#[]⟩, .bool false, .string ⟨#[]⟩, .int .i64 0] 39)
           have oB_v7 : Hid (OpnAt (v4.alloc (.cells #[.bool false, .int .i64 0, .string ⟨#[]⟩, .bool false, .string ⟨#[]⟩, .int .i64 0] 39)) v4.heap.size) := hidI (opn_new v4 #[.bool false, .int .i64 0, .string ⟨#[]⟩, .bool false, .string ⟨#[]⟩, .int .i64 0] 39)
           have tB_v7 : Hid (OfT (v4.alloc (.cells #[.bool false, .int .i64 0, .string ⟨#[]⟩, .bool false, .string ⟨#[]⟩, .int .i64 0] 39)) v4.heap.size 39) := hidI (ofT_new v4 #[.bool false, .int .i64 0, .string ⟨#[]⟩, .bool false, .string ⟨#[]⟩, .int .i64 0] 39)
           have hBl_v7 : v4.heap.size < (v4.alloc (.cells #[.bool false, .int .i64 0, .string ⟨#[]⟩, .bool false, .string ⟨#[]⟩, .int .i64 0] 39)).heap.size := by simp
           have hdv7 : Below v4.heap.size v4 (v4.alloc (.cells #[.bool false, .int .i64 0, .string ⟨#[]⟩, .bool false, .string ⟨#[]⟩, .int .i64 0] 39)) := (Below.refl _ _).alloc (Nat.le_refl _) _
           have SA_v7 := hidI (SA_v4.out.below hdv7)
           have FA_v7 := hidI (G.T.files_below FA_v4.out hdv7)
           have DA_v7 := hidI (G.deeds_below DA_v4.out hdv7)
           clear SA_v4
           clear FA_v4
           clear DA_v4
           have a0v7 := (kv7.cell (p := ⟨b4, 0, none⟩) hb4).trans z0
           have a1v7 := (kv7.cell (p := ⟨b4, 1, none⟩) hb4).trans z1
           have a2v7 := (kv7.cell (p := ⟨b4, 2, none⟩) hb4).trans z2
           have a3v7 := (kv7.cell (p := ⟨b5, 0, none⟩) hb5).trans z3
           have a4v7 := (kv7.cell (p := ⟨b6, 0, none⟩) hb6).trans z4
           have a5v7 := (kv7.cell (p := ⟨b6, 1, none⟩) hb6).trans z5
           have a6v7 := (kv7.cell (p := ⟨b6, 2, none⟩) hb6).trans z6
           have lv7 := kv7.size
           clear hHeld
           refine hK.out _ _ ⟨a0v7, a1v7, a2v7, a3v7, a4v7, a5v7, a6v7⟩ (fun hHeld => ?_)
           clear hK K
           try simp only [qq]
           generalize (v4.alloc (.cells #[.bool false, .int .i64 0, .string ⟨#[]⟩, .bool false, .string ⟨#[]⟩, .int .i64 0] 39)) = v7 at *
           refine rd (i := 8) (o := ⟨some 51, .call ⟨.value (.func 8), #[.tmp 44, .tmp 46, .tmp 48, .tmp 50], #[45, 49, 51, 53]⟩, 41, _, _, none⟩) rfl (by kernel_rfl) (fun K hK => ?_)
           go_simp
           refine (hX tb rb g q _ kv7 SA_v7.out FA_v7.out DA_v7.out).mono ?_
           rintro e v8 ⟨⟨av, cv, rfl, how⟩, hcv8⟩
           go_wp2_with fail
           have kv8 : Below u.heap.size u v8 := kv7.trans (hcv8.mono lv7)
           have hdv8 : Below v7.heap.size v7 v8 := hcv8
           have SA_v8 := hidI (SA_v7.out.below hdv8)
           have FA_v8 := hidI (G.T.files_below FA_v7.out hdv8)
           have DA_v8 := hidI (G.deeds_below DA_v7.out hdv8)
           have bB_v8 := hidI (bB_v7.out.below hdv8 hBl_v7)
           have oB_v8 := hidI (oB_v7.out.below hdv8 hBl_v7)
           have tB_v8 := hidI (tB_v7.out.below hdv8 hBl_v7)
           have hBl_v8 := Nat.lt_of_lt_of_le hBl_v7 hdv8.size
           clear SA_v7
           clear FA_v7
           clear DA_v7
           clear bB_v7
           clear oB_v7
           clear tB_v7
           clear hBl_v7
           have OW_v8 : Hid (v8.ownsRow u.heap.size 108 4 (.slice av A.ls.length cv) A.ls.length (lC A.ls)) := hidI (own_low how (by first | exact lv7 | exact Nat.le_refl _))
           clear how
           have a0v8 := (kv8.cell (p := ⟨b4, 0, none⟩) hb4).trans z0
           have a1v8 := (kv8.cell (p := ⟨b4, 1, none⟩) hb4).trans z1
           have a2v8 := (kv8.cell (p := ⟨b4, 2, none⟩) hb4).trans z2
           have a3v8 := (kv8.cell (p := ⟨b5, 0, none⟩) hb5).trans z3
           have a4v8 := (kv8.cell (p := ⟨b6, 0, none⟩) hb6).trans z4
           have a5v8 := (kv8.cell (p := ⟨b6, 1, none⟩) hb6).trans z5
           have a6v8 := (kv8.cell (p := ⟨b6, 2, none⟩) hb6).trans z6
           have lv8 := kv8.size
           clear hHeld
           refine hK.out _ _ ⟨a0v8, a1v8, a2v8, a3v8, a4v8, a5v8, a6v8⟩ (fun hHeld => ?_)
           clear hK K
           try simp only [qq]
           refine tk (i := 9) (oi := ⟨some 42, .move (.tmp 51), 41, _, _, none⟩) (v := ?_) (hQ := fun _ _ _ h => hQ _ _ _ _ _ h) rfl (by kernel_rfl) rfl ?e hHeld ?_
           case e => intro wq hSw; (try dsimp only at hSw); go_simp; try with_reducible rfl
           try simp only [qq]
           refine tk (i := 10) (oi := ⟨some 52, .extract (.tmp 42) 0, 39, _, _, none⟩) (v := ?_) (hQ := fun _ _ _ h => hQ _ _ _ _ _ h) rfl (by kernel_rfl) rfl ?e hHeld ?_
           case e => intro wq hSw; (try dsimp only at hSw); go_simp; try with_reducible rfl
           try simp only [qq]
           refine tk (i := 11) (oi := ⟨some 53, .extract (.tmp 42) 1, 40, _, _, none⟩) (v := ?_) (hQ := fun _ _ _ h => hQ _ _ _ _ _ h) rfl (by kernel_rfl) rfl ?e hHeld ?_
           case e => intro wq hSw; (try dsimp only at hSw); go_simp; try with_reducible rfl
           try simp only [qq]
           refine rd (i := 13) (o := ⟨none, .store 39 (.tmp 10) (.tmp 52), 0, _, _, none⟩) rfl (by kernel_rfl) (fun K hK => ?_)
           refine step_store_blk rfl 39 (.tmp 10) (.tmp 52) rfl v4.heap.size 0 rfl [.bool A.ov, .int .i64 A.cd, .string A.tx, .bool false, .string A.nm, .int .i64 0] rfl (blk_some bB_v8.out rfl) oB_v8.out (by simp [Value.oneCell']) (by kernel_rfl) rfl ?_
           clear hHeld
           refine st_overT (old := [.bool false, .int .i64 0, .string ⟨#[]⟩, .bool false, .string ⟨#[]⟩, .int .i64 0]) (N := u.heap.size) rfl bB_v8.out oB_v8.out tB_v8.out (by omega) ?_
           intro E bE ZE OE TE hEs hE
           have kE : Below u.heap.size u E := kv8.trans bE
           have a0E := (kE.cell (p := ⟨b4, 0, none⟩) hb4).trans z0
           have a1E := (kE.cell (p := ⟨b4, 1, none⟩) hb4).trans z1
           have a2E := (kE.cell (p := ⟨b4, 2, none⟩) hb4).trans z2
           have a3E := (kE.cell (p := ⟨b5, 0, none⟩) hb5).trans z3
           have a4E := (kE.cell (p := ⟨b6, 0, none⟩) hb6).trans z4
           have a5E := (kE.cell (p := ⟨b6, 1, none⟩) hb6).trans z5
           have a6E := (kE.cell (p := ⟨b6, 2, none⟩) hb6).trans z6
           have lE := kE.size
           have RE : E.ownsRow u.heap.size 108 4 (.slice av A.ls.length cv) A.ls.length (lC A.ls) := own_keep' OW_v8.out (fun q hq => hE q (ofT_lt (own_ofT OW_v8.out hq)) (fun e => by
            have e2 := ofT_one (own_ofT OW_v8.out hq) (e ▸ tB_v8.out)
            exact absurd e2 (by decide)))
           refine hK.out _ _ ⟨a0E, a1E, a2E, a3E, a4E, a5E, a6E⟩ (fun hHeld => ?_)
           clear hK K
           try simp only [qq]
           refine tk (i := 14) (oi := ⟨some 11, .assign (.tmp 53), 40, _, _, none⟩) (v := ?_) (hQ := fun _ _ _ h => hQ _ _ _ _ _ h) rfl (by kernel_rfl) rfl ?e hHeld ?_
           case e => intro wq hSw; (try dsimp only at hSw); go_simp; try with_reducible rfl
           try simp only [qq]
           refine wpAnyH_done (by kernel_rfl) ?_ _
           clear hHeld
           exact hKK _ _ _ _ _ _ _ _ _ _ _ _ av cv v4.heap.size E kE (by omega) (by have := kE.size; have := bE.size; have := hBl_v8; omega) ZE TE RE
       · go_simp
         have kv9 : Below u.heap.size u (v3.alloc (.cells #[.bool false, .int .i64 0, .string ⟨#[]⟩, .bool false, .string ⟨#[]⟩, .int .i64 0] 39)) := (kv3.alloc lv3 _)
         have bB_v9 : Hid (BlkAt (v3.alloc (.cells #[.bool false, .int .i64 0, .string ⟨#[]⟩, .bool false, .string ⟨#[]⟩, .int .i64 0] 39)) v3.heap.size [.bool false, .int .i64 0, .string ⟨#[]⟩, .bool false, .string ⟨#[]⟩, .int .i64 0]) := hidI (blk_new v3 [.bool false, .int .i64 0, .string ⟨#[]⟩, .bool false, .string ⟨#[]⟩, .int .i64 0] 39)
         have oB_v9 : Hid (OpnAt (v3.alloc (.cells #[.bool false, .int .i64 0, .string ⟨#[]⟩, .bool false, .string ⟨#[]⟩, .int .i64 0] 39)) v3.heap.size) := hidI (opn_new v3 #[.bool false, .int .i64 0, .string ⟨#[]⟩, .bool false, .string ⟨#[]⟩, .int .i64 0] 39)
         have tB_v9 : Hid (OfT (v3.alloc (.cells #[.bool false, .int .i64 0, .string ⟨#[]⟩, .bool false, .string ⟨#[]⟩, .int .i64 0] 39)) v3.heap.size 39) := hidI (ofT_new v3 #[.bool false, .int .i64 0, .string ⟨#[]⟩, .bool false, .string ⟨#[]⟩, .int .i64 0] 39)
         have hBl_v9 : v3.heap.size < (v3.alloc (.cells #[.bool false, .int .i64 0, .string ⟨#[]⟩, .bool false, .string ⟨#[]⟩, .int .i64 0] 39)).heap.size := by simp
         have hdv9 : Below v3.heap.size v3 (v3.alloc (.cells #[.bool false, .int .i64 0, .string ⟨#[]⟩, .bool false, .string ⟨#[]⟩, .int .i64 0] 39)) := (Below.refl _ _).alloc (Nat.le_refl _) _
         have SA_v9 := hidI (SA_v3.out.below hdv9)
         have FA_v9 := hidI (G.T.files_below FA_v3.out hdv9)
         clear SA_v3
         clear FA_v3
         have a0v9 := (kv9.cell (p := ⟨b4, 0, none⟩) hb4).trans z0
         have a1v9 := (kv9.cell (p := ⟨b4, 1, none⟩) hb4).trans z1
         have a2v9 := (kv9.cell (p := ⟨b4, 2, none⟩) hb4).trans z2
         have a3v9 := (kv9.cell (p := ⟨b5, 0, none⟩) hb5).trans z3
         have a4v9 := (kv9.cell (p := ⟨b6, 0, none⟩) hb6).trans z4
         have a5v9 := (kv9.cell (p := ⟨b6, 1, none⟩) hb6).trans z5
         have a6v9 := (kv9.cell (p := ⟨b6, 2, none⟩) hb6).trans z6
         have lv9 := kv9.size
         clear hHeld
         refine hK.out _ _ ⟨a0v9, a1v9, a2v9, a3v9, a4v9, a5v9, a6v9⟩ (fun hHeld => ?_)
         clear hK K
         try simp only [qq]
         generalize (v3.alloc (.cells #[.bool false, .int .i64 0, .string ⟨#[]⟩, .bool false, .string ⟨#[]⟩, .int .i64 0] 39)) = v9 at *
         refine rd (i := 7) (o := ⟨some 50, .call ⟨.value (.func 12), #[.tmp 49], #[31]⟩, 53, _, _, none⟩) rfl (by kernel_rfl) (fun K hK => ?_)
         go_simp
         refine (h12 _ kv9).mono ?_
         rintro e v10 ⟨⟨q, rfl, hda⟩, hcv10⟩
         go_wp2_with fail
         have kv10 : Below u.heap.size u v10 := kv9.trans (hcv10.mono lv9)
         have hdv10 : Below v9.heap.size v9 v10 := hcv10
         have SA_v10 := hidI (SA_v9.out.below hdv10)
         have FA_v10 := hidI (G.T.files_below FA_v9.out hdv10)
         have bB_v10 := hidI (bB_v9.out.below hdv10 hBl_v9)
         have oB_v10 := hidI (oB_v9.out.below hdv10 hBl_v9)
         have tB_v10 := hidI (tB_v9.out.below hdv10 hBl_v9)
         have hBl_v10 := Nat.lt_of_lt_of_le hBl_v9 hdv10.size
         clear SA_v9
         clear FA_v9
         clear bB_v9
         clear oB_v9
         clear tB_v9
         clear hBl_v9
         have DA_v10 := hidI hda
         clear hda
         have a0v10 := (kv10.cell (p := ⟨b4, 0, none⟩) hb4).trans z0
         have a1v10 := (kv10.cell (p := ⟨b4, 1, none⟩) hb4).trans z1
         have a2v10 := (kv10.cell (p := ⟨b4, 2, none⟩) hb4).trans z2
         have a3v10 := (kv10.cell (p := ⟨b5, 0, none⟩) hb5).trans z3
         have a4v10 := (kv10.cell (p := ⟨b6, 0, none⟩) hb6).trans z4
         have a5v10 := (kv10.cell (p := ⟨b6, 1, none⟩) hb6).trans z5
         have a6v10 := (kv10.cell (p := ⟨b6, 2, none⟩) hb6).trans z6
         have lv10 := kv10.size
         clear hHeld
         refine hK.out _ _ ⟨a0v10, a1v10, a2v10, a3v10, a4v10, a5v10, a6v10⟩ (fun hHeld => ?_)
         clear hK K
         try simp only [qq]
         refine rd (i := 8) (o := ⟨some 51, .call ⟨.value (.func 8), #[.tmp 44, .tmp 46, .tmp 48, .tmp 50], #[45, 49, 51, 53]⟩, 41, _, _, none⟩) rfl (by kernel_rfl) (fun K hK => ?_)
         go_simp
         refine (hX tb rb g q _ kv10 SA_v10.out FA_v10.out DA_v10.out).mono ?_
         rintro e v11 ⟨⟨av, cv, rfl, how⟩, hcv11⟩
         go_wp2_with fail
         have kv11 : Below u.heap.size u v11 := kv10.trans (hcv11.mono lv10)
         have hdv11 : Below v10.heap.size v10 v11 := hcv11
         have SA_v11 := hidI (SA_v10.out.below hdv11)
         have FA_v11 := hidI (G.T.files_below FA_v10.out hdv11)
         have bB_v11 := hidI (bB_v10.out.below hdv11 hBl_v10)
         have oB_v11 := hidI (oB_v10.out.below hdv11 hBl_v10)
         have tB_v11 := hidI (tB_v10.out.below hdv11 hBl_v10)
         have DA_v11 := hidI (G.deeds_below DA_v10.out hdv11)
         have hBl_v11 := Nat.lt_of_lt_of_le hBl_v10 hdv11.size
         clear SA_v10
         clear FA_v10
         clear bB_v10
         clear oB_v10
         clear tB_v10
         clear DA_v10
         clear hBl_v10
         have OW_v11 : Hid (v11.ownsRow u.heap.size 108 4 (.slice av A.ls.length cv) A.ls.length (lC A.ls)) := hidI (own_low how (by first | exact lv10 | exact Nat.le_refl _))
         clear how
         have a0v11 := (kv11.cell (p := ⟨b4, 0, none⟩) hb4).trans z0
         have a1v11 := (kv11.cell (p := ⟨b4, 1, none⟩) hb4).trans z1
         have a2v11 := (kv11.cell (p := ⟨b4, 2, none⟩) hb4).trans z2
         have a3v11 := (kv11.cell (p := ⟨b5, 0, none⟩) hb5).trans z3
         have a4v11 := (kv11.cell (p := ⟨b6, 0, none⟩) hb6).trans z4
         have a5v11 := (kv11.cell (p := ⟨b6, 1, none⟩) hb6).trans z5
         have a6v11 := (kv11.cell (p := ⟨b6, 2, none⟩) hb6).trans z6
         have lv11 := kv11.size
         clear hHeld
         refine hK.out _ _ ⟨a0v11, a1v11, a2v11, a3v11, a4v11, a5v11, a6v11⟩ (fun hHeld => ?_)
         clear hK K
         try simp only [qq]
         refine tk (i := 9) (oi := ⟨some 42, .move (.tmp 51), 41, _, _, none⟩) (v := ?_) (hQ := fun _ _ _ h => hQ _ _ _ _ _ h) rfl (by kernel_rfl) rfl ?e hHeld ?_
         case e => intro wq hSw; (try dsimp only at hSw); go_simp; try with_reducible rfl
         try simp only [qq]
         refine tk (i := 10) (oi := ⟨some 52, .extract (.tmp 42) 0, 39, _, _, none⟩) (v := ?_) (hQ := fun _ _ _ h => hQ _ _ _ _ _ h) rfl (by kernel_rfl) rfl ?e hHeld ?_
         case e => intro wq hSw; (try dsimp only at hSw); go_simp; try with_reducible rfl
         try simp only [qq]
         refine tk (i := 11) (oi := ⟨some 53, .extract (.tmp 42) 1, 40, _, _, none⟩) (v := ?_) (hQ := fun _ _ _ h => hQ _ _ _ _ _ h) rfl (by kernel_rfl) rfl ?e hHeld ?_
         case e => intro wq hSw; (try dsimp only at hSw); go_simp; try with_reducible rfl
         try simp only [qq]
         refine rd (i := 13) (o := ⟨none, .store 39 (.tmp 10) (.tmp 52), 0, _, _, none⟩) rfl (by kernel_rfl) (fun K hK => ?_)
         refine step_store_blk rfl 39 (.tmp 10) (.tmp 52) rfl v3.heap.size 0 rfl [.bool A.ov, .int .i64 A.cd, .string A.tx, .bool false, .string A.nm, .int .i64 0] rfl (blk_some bB_v11.out rfl) oB_v11.out (by simp [Value.oneCell']) (by kernel_rfl) rfl ?_
         clear hHeld
         refine st_overT (old := [.bool false, .int .i64 0, .string ⟨#[]⟩, .bool false, .string ⟨#[]⟩, .int .i64 0]) (N := u.heap.size) rfl bB_v11.out oB_v11.out tB_v11.out (by omega) ?_
         intro E bE ZE OE TE hEs hE
         have kE : Below u.heap.size u E := kv11.trans bE
         have a0E := (kE.cell (p := ⟨b4, 0, none⟩) hb4).trans z0
         have a1E := (kE.cell (p := ⟨b4, 1, none⟩) hb4).trans z1
         have a2E := (kE.cell (p := ⟨b4, 2, none⟩) hb4).trans z2
         have a3E := (kE.cell (p := ⟨b5, 0, none⟩) hb5).trans z3
         have a4E := (kE.cell (p := ⟨b6, 0, none⟩) hb6).trans z4
         have a5E := (kE.cell (p := ⟨b6, 1, none⟩) hb6).trans z5
         have a6E := (kE.cell (p := ⟨b6, 2, none⟩) hb6).trans z6
         have lE := kE.size
         have RE : E.ownsRow u.heap.size 108 4 (.slice av A.ls.length cv) A.ls.length (lC A.ls) := own_keep' OW_v11.out (fun q hq => hE q (ofT_lt (own_ofT OW_v11.out hq)) (fun e => by
          have e2 := ofT_one (own_ofT OW_v11.out hq) (e ▸ tB_v11.out)
          exact absurd e2 (by decide)))
         refine hK.out _ _ ⟨a0E, a1E, a2E, a3E, a4E, a5E, a6E⟩ (fun hHeld => ?_)
         clear hK K
         try simp only [qq]
         refine tk (i := 14) (oi := ⟨some 11, .assign (.tmp 53), 40, _, _, none⟩) (v := ?_) (hQ := fun _ _ _ h => hQ _ _ _ _ _ h) rfl (by kernel_rfl) rfl ?e hHeld ?_
         case e => intro wq hSw; (try dsimp only at hSw); go_simp; try with_reducible rfl
         try simp only [qq]
         refine wpAnyH_done (by kernel_rfl) ?_ _
         clear hHeld
         exact hKK _ _ _ _ _ _ _ _ _ _ _ _ av cv v3.heap.size E kE (by omega) (by have := kE.size; have := bE.size; have := hBl_v11; omega) ZE TE RE
     · go_simp
       have kv12 : Below u.heap.size u (v2.alloc (.cells #[.bool false, .int .i64 0, .string ⟨#[]⟩, .bool false, .string ⟨#[]⟩, .int .i64 0] 39)) := (kv2.alloc lv2 _)
       have bB_v12 : Hid (BlkAt (v2.alloc (.cells #[.bool false, .int .i64 0, .string ⟨#[]⟩, .bool false, .string ⟨#[]⟩, .int .i64 0] 39)) v2.heap.size [.bool false, .int .i64 0, .string ⟨#[]⟩, .bool false, .string ⟨#[]⟩, .int .i64 0]) := hidI (blk_new v2 [.bool false, .int .i64 0, .string ⟨#[]⟩, .bool false, .string ⟨#[]⟩, .int .i64 0] 39)
       have oB_v12 : Hid (OpnAt (v2.alloc (.cells #[.bool false, .int .i64 0, .string ⟨#[]⟩, .bool false, .string ⟨#[]⟩, .int .i64 0] 39)) v2.heap.size) := hidI (opn_new v2 #[.bool false, .int .i64 0, .string ⟨#[]⟩, .bool false, .string ⟨#[]⟩, .int .i64 0] 39)
       have tB_v12 : Hid (OfT (v2.alloc (.cells #[.bool false, .int .i64 0, .string ⟨#[]⟩, .bool false, .string ⟨#[]⟩, .int .i64 0] 39)) v2.heap.size 39) := hidI (ofT_new v2 #[.bool false, .int .i64 0, .string ⟨#[]⟩, .bool false, .string ⟨#[]⟩, .int .i64 0] 39)
       have hBl_v12 : v2.heap.size < (v2.alloc (.cells #[.bool false, .int .i64 0, .string ⟨#[]⟩, .bool false, .string ⟨#[]⟩, .int .i64 0] 39)).heap.size := by simp
       have hdv12 : Below v2.heap.size v2 (v2.alloc (.cells #[.bool false, .int .i64 0, .string ⟨#[]⟩, .bool false, .string ⟨#[]⟩, .int .i64 0] 39)) := (Below.refl _ _).alloc (Nat.le_refl _) _
       have SA_v12 := hidI (SA_v2.out.below hdv12)
       have FA_v12 := hidI (G.T.files_below FA_v2.out hdv12)
       clear SA_v2
       clear FA_v2
       have a0v12 := (kv12.cell (p := ⟨b4, 0, none⟩) hb4).trans z0
       have a1v12 := (kv12.cell (p := ⟨b4, 1, none⟩) hb4).trans z1
       have a2v12 := (kv12.cell (p := ⟨b4, 2, none⟩) hb4).trans z2
       have a3v12 := (kv12.cell (p := ⟨b5, 0, none⟩) hb5).trans z3
       have a4v12 := (kv12.cell (p := ⟨b6, 0, none⟩) hb6).trans z4
       have a5v12 := (kv12.cell (p := ⟨b6, 1, none⟩) hb6).trans z5
       have a6v12 := (kv12.cell (p := ⟨b6, 2, none⟩) hb6).trans z6
       have lv12 := kv12.size
       clear hHeld
       refine hK.out _ _ ⟨a0v12, a1v12, a2v12, a3v12, a4v12, a5v12, a6v12⟩ (fun hHeld => ?_)
       clear hK K
       try simp only [qq]
       generalize (v2.alloc (.cells #[.bool false, .int .i64 0, .string ⟨#[]⟩, .bool false, .string ⟨#[]⟩, .int .i64 0] 39)) = v12 at *
       refine rd (i := 5) (o := ⟨some 48, .call ⟨.value (.func 11), #[.tmp 47], #[30]⟩, 51, _, _, none⟩) rfl (by kernel_rfl) (fun K hK => ?_)
       go_simp
       refine (c11 m _).mono ?_
       rintro e v13 ⟨rfl, hcv13⟩
       go_wp2_with fail
       have kv13 : Below u.heap.size u v13 := kv12.trans (hcv13.mono lv12)
       have hdv13 : Below v12.heap.size v12 v13 := hcv13
       have SA_v13 := hidI (SA_v12.out.below hdv13)
       have FA_v13 := hidI (G.T.files_below FA_v12.out hdv13)
       have bB_v13 := hidI (bB_v12.out.below hdv13 hBl_v12)
       have oB_v13 := hidI (oB_v12.out.below hdv13 hBl_v12)
       have tB_v13 := hidI (tB_v12.out.below hdv13 hBl_v12)
       have hBl_v13 := Nat.lt_of_lt_of_le hBl_v12 hdv13.size
       clear SA_v12
       clear FA_v12
       clear bB_v12
       clear oB_v12
       clear tB_v12
       clear hBl_v12
       have a0v13 := (kv13.cell (p := ⟨b4, 0, none⟩) hb4).trans z0
       have a1v13 := (kv13.cell (p := ⟨b4, 1, none⟩) hb4).trans z1
       have a2v13 := (kv13.cell (p := ⟨b4, 2, none⟩) hb4).trans z2
       have a3v13 := (kv13.cell (p := ⟨b5, 0, none⟩) hb5).trans z3
       have a4v13 := (kv13.cell (p := ⟨b6, 0, none⟩) hb6).trans z4
       have a5v13 := (kv13.cell (p := ⟨b6, 1, none⟩) hb6).trans z5
       have a6v13 := (kv13.cell (p := ⟨b6, 2, none⟩) hb6).trans z6
       have lv13 := kv13.size
       clear hHeld
       refine hK.out _ _ ⟨a0v13, a1v13, a2v13, a3v13, a4v13, a5v13, a6v13⟩ (fun hHeld => ?_)
       clear hK K
       try simp only [qq]
       refine rd (i := 7) (o := ⟨some 50, .call ⟨.value (.func 12), #[.tmp 49], #[31]⟩, 53, _, _, none⟩) rfl (by kernel_rfl) (fun K hK => ?_)
       go_simp
       refine (h12 _ kv13).mono ?_
       rintro e v14 ⟨⟨q, rfl, hda⟩, hcv14⟩
       go_wp2_with fail
       have kv14 : Below u.heap.size u v14 := kv13.trans (hcv14.mono lv13)
       have hdv14 : Below v13.heap.size v13 v14 := hcv14
       have SA_v14 := hidI (SA_v13.out.below hdv14)
       have FA_v14 := hidI (G.T.files_below FA_v13.out hdv14)
       have bB_v14 := hidI (bB_v13.out.below hdv14 hBl_v13)
       have oB_v14 := hidI (oB_v13.out.below hdv14 hBl_v13)
       have tB_v14 := hidI (tB_v13.out.below hdv14 hBl_v13)
       have hBl_v14 := Nat.lt_of_lt_of_le hBl_v13 hdv14.size
       clear SA_v13
       clear FA_v13
       clear bB_v13
       clear oB_v13
       clear tB_v13
       clear hBl_v13
       have DA_v14 := hidI hda
       clear hda
       have a0v14 := (kv14.cell (p := ⟨b4, 0, none⟩) hb4).trans z0
       have a1v14 := (kv14.cell (p := ⟨b4, 1, none⟩) hb4).trans z1
       have a2v14 := (kv14.cell (p := ⟨b4, 2, none⟩) hb4).trans z2
       have a3v14 := (kv14.cell (p := ⟨b5, 0, none⟩) hb5).trans z3
       have a4v14 := (kv14.cell (p := ⟨b6, 0, none⟩) hb6).trans z4
       have a5v14 := (kv14.cell (p := ⟨b6, 1, none⟩) hb6).trans z5
       have a6v14 := (kv14.cell (p := ⟨b6, 2, none⟩) hb6).trans z6
       have lv14 := kv14.size
       clear hHeld
       refine hK.out _ _ ⟨a0v14, a1v14, a2v14, a3v14, a4v14, a5v14, a6v14⟩ (fun hHeld => ?_)
       clear hK K
       try simp only [qq]
       refine rd (i := 8) (o := ⟨some 51, .call ⟨.value (.func 8), #[.tmp 44, .tmp 46, .tmp 48, .tmp 50], #[45, 49, 51, 53]⟩, 41, _, _, none⟩) rfl (by kernel_rfl) (fun K hK => ?_)
       go_simp
       refine (hX tb rb g q _ kv14 SA_v14.out FA_v14.out DA_v14.out).mono ?_
       rintro e v15 ⟨⟨av, cv, rfl, how⟩, hcv15⟩
       go_wp2_with fail
       have kv15 : Below u.heap.size u v15 := kv14.trans (hcv15.mono lv14)
       have hdv15 : Below v14.heap.size v14 v15 := hcv15
       have SA_v15 := hidI (SA_v14.out.below hdv15)
       have FA_v15 := hidI (G.T.files_below FA_v14.out hdv15)
       have bB_v15 := hidI (bB_v14.out.below hdv15 hBl_v14)
       have oB_v15 := hidI (oB_v14.out.below hdv15 hBl_v14)
       have tB_v15 := hidI (tB_v14.out.below hdv15 hBl_v14)
       have DA_v15 := hidI (G.deeds_below DA_v14.out hdv15)
       have hBl_v15 := Nat.lt_of_lt_of_le hBl_v14 hdv15.size
       clear SA_v14
       clear FA_v14
       clear bB_v14
       clear oB_v14
       clear tB_v14
       clear DA_v14
       clear hBl_v14
       have OW_v15 : Hid (v15.ownsRow u.heap.size 108 4 (.slice av A.ls.length cv) A.ls.length (lC A.ls)) := hidI (own_low how (by first | exact lv14 | exact Nat.le_refl _))
       clear how
       have a0v15 := (kv15.cell (p := ⟨b4, 0, none⟩) hb4).trans z0
       have a1v15 := (kv15.cell (p := ⟨b4, 1, none⟩) hb4).trans z1
       have a2v15 := (kv15.cell (p := ⟨b4, 2, none⟩) hb4).trans z2
       have a3v15 := (kv15.cell (p := ⟨b5, 0, none⟩) hb5).trans z3
       have a4v15 := (kv15.cell (p := ⟨b6, 0, none⟩) hb6).trans z4
       have a5v15 := (kv15.cell (p := ⟨b6, 1, none⟩) hb6).trans z5
       have a6v15 := (kv15.cell (p := ⟨b6, 2, none⟩) hb6).trans z6
       have lv15 := kv15.size
       clear hHeld
       refine hK.out _ _ ⟨a0v15, a1v15, a2v15, a3v15, a4v15, a5v15, a6v15⟩ (fun hHeld => ?_)
       clear hK K
       try simp only [qq]
       refine tk (i := 9) (oi := ⟨some 42, .move (.tmp 51), 41, _, _, none⟩) (v := ?_) (hQ := fun _ _ _ h => hQ _ _ _ _ _ h) rfl (by kernel_rfl) rfl ?e hHeld ?_
       case e => intro wq hSw; (try dsimp only at hSw); go_simp; try with_reducible rfl
       try simp only [qq]
       refine tk (i := 10) (oi := ⟨some 52, .extract (.tmp 42) 0, 39, _, _, none⟩) (v := ?_) (hQ := fun _ _ _ h => hQ _ _ _ _ _ h) rfl (by kernel_rfl) rfl ?e hHeld ?_
       case e => intro wq hSw; (try dsimp only at hSw); go_simp; try with_reducible rfl
       try simp only [qq]
       refine tk (i := 11) (oi := ⟨some 53, .extract (.tmp 42) 1, 40, _, _, none⟩) (v := ?_) (hQ := fun _ _ _ h => hQ _ _ _ _ _ h) rfl (by kernel_rfl) rfl ?e hHeld ?_
       case e => intro wq hSw; (try dsimp only at hSw); go_simp; try with_reducible rfl
       try simp only [qq]
       refine rd (i := 13) (o := ⟨none, .store 39 (.tmp 10) (.tmp 52), 0, _, _, none⟩) rfl (by kernel_rfl) (fun K hK => ?_)
       refine step_store_blk rfl 39 (.tmp 10) (.tmp 52) rfl v2.heap.size 0 rfl [.bool A.ov, .int .i64 A.cd, .string A.tx, .bool false, .string A.nm, .int .i64 0] rfl (blk_some bB_v15.out rfl) oB_v15.out (by simp [Value.oneCell']) (by kernel_rfl) rfl ?_
       clear hHeld
       refine st_overT (old := [.bool false, .int .i64 0, .string ⟨#[]⟩, .bool false, .string ⟨#[]⟩, .int .i64 0]) (N := u.heap.size) rfl bB_v15.out oB_v15.out tB_v15.out (by omega) ?_
       intro E bE ZE OE TE hEs hE
       have kE : Below u.heap.size u E := kv15.trans bE
       have a0E := (kE.cell (p := ⟨b4, 0, none⟩) hb4).trans z0
       have a1E := (kE.cell (p := ⟨b4, 1, none⟩) hb4).trans z1
       have a2E := (kE.cell (p := ⟨b4, 2, none⟩) hb4).trans z2
       have a3E := (kE.cell (p := ⟨b5, 0, none⟩) hb5).trans z3
       have a4E := (kE.cell (p := ⟨b6, 0, none⟩) hb6).trans z4
       have a5E := (kE.cell (p := ⟨b6, 1, none⟩) hb6).trans z5
       have a6E := (kE.cell (p := ⟨b6, 2, none⟩) hb6).trans z6
       have lE := kE.size
       have RE : E.ownsRow u.heap.size 108 4 (.slice av A.ls.length cv) A.ls.length (lC A.ls) := own_keep' OW_v15.out (fun q hq => hE q (ofT_lt (own_ofT OW_v15.out hq)) (fun e => by
        have e2 := ofT_one (own_ofT OW_v15.out hq) (e ▸ tB_v15.out)
        exact absurd e2 (by decide)))
       refine hK.out _ _ ⟨a0E, a1E, a2E, a3E, a4E, a5E, a6E⟩ (fun hHeld => ?_)
       clear hK K
       try simp only [qq]
       refine tk (i := 14) (oi := ⟨some 11, .assign (.tmp 53), 40, _, _, none⟩) (v := ?_) (hQ := fun _ _ _ h => hQ _ _ _ _ _ h) rfl (by kernel_rfl) rfl ?e hHeld ?_
       case e => intro wq hSw; (try dsimp only at hSw); go_simp; try with_reducible rfl
       try simp only [qq]
       refine wpAnyH_done (by kernel_rfl) ?_ _
       clear hHeld
       exact hKK _ _ _ _ _ _ _ _ _ _ _ _ av cv v2.heap.size E kE (by omega) (by have := kE.size; have := bE.size; have := hBl_v15; omega) ZE TE RE
   · go_simp
     have kv16 : Below u.heap.size u (v1.alloc (.cells #[.bool false, .int .i64 0, .string ⟨#[]⟩, .bool false, .string ⟨#[]⟩, .int .i64 0] 39)) := (kv1.alloc lv1 _)
     have bB_v16 : Hid (BlkAt (v1.alloc (.cells #[.bool false, .int .i64 0, .string ⟨#[]⟩, .bool false, .string ⟨#[]⟩, .int .i64 0] 39)) v1.heap.size [.bool false, .int .i64 0, .string ⟨#[]⟩, .bool false, .string ⟨#[]⟩, .int .i64 0]) := hidI (blk_new v1 [.bool false, .int .i64 0, .string ⟨#[]⟩, .bool false, .string ⟨#[]⟩, .int .i64 0] 39)
     have oB_v16 : Hid (OpnAt (v1.alloc (.cells #[.bool false, .int .i64 0, .string ⟨#[]⟩, .bool false, .string ⟨#[]⟩, .int .i64 0] 39)) v1.heap.size) := hidI (opn_new v1 #[.bool false, .int .i64 0, .string ⟨#[]⟩, .bool false, .string ⟨#[]⟩, .int .i64 0] 39)
     have tB_v16 : Hid (OfT (v1.alloc (.cells #[.bool false, .int .i64 0, .string ⟨#[]⟩, .bool false, .string ⟨#[]⟩, .int .i64 0] 39)) v1.heap.size 39) := hidI (ofT_new v1 #[.bool false, .int .i64 0, .string ⟨#[]⟩, .bool false, .string ⟨#[]⟩, .int .i64 0] 39)
     have hBl_v16 : v1.heap.size < (v1.alloc (.cells #[.bool false, .int .i64 0, .string ⟨#[]⟩, .bool false, .string ⟨#[]⟩, .int .i64 0] 39)).heap.size := by simp
     have hdv16 : Below v1.heap.size v1 (v1.alloc (.cells #[.bool false, .int .i64 0, .string ⟨#[]⟩, .bool false, .string ⟨#[]⟩, .int .i64 0] 39)) := (Below.refl _ _).alloc (Nat.le_refl _) _
     have SA_v16 := hidI (SA_v1.out.below hdv16)
     clear SA_v1
     have a0v16 := (kv16.cell (p := ⟨b4, 0, none⟩) hb4).trans z0
     have a1v16 := (kv16.cell (p := ⟨b4, 1, none⟩) hb4).trans z1
     have a2v16 := (kv16.cell (p := ⟨b4, 2, none⟩) hb4).trans z2
     have a3v16 := (kv16.cell (p := ⟨b5, 0, none⟩) hb5).trans z3
     have a4v16 := (kv16.cell (p := ⟨b6, 0, none⟩) hb6).trans z4
     have a5v16 := (kv16.cell (p := ⟨b6, 1, none⟩) hb6).trans z5
     have a6v16 := (kv16.cell (p := ⟨b6, 2, none⟩) hb6).trans z6
     have lv16 := kv16.size
     clear hHeld
     refine hK.out _ _ ⟨a0v16, a1v16, a2v16, a3v16, a4v16, a5v16, a6v16⟩ (fun hHeld => ?_)
     clear hK K
     try simp only [qq]
     generalize (v1.alloc (.cells #[.bool false, .int .i64 0, .string ⟨#[]⟩, .bool false, .string ⟨#[]⟩, .int .i64 0] 39)) = v16 at *
     refine rd (i := 3) (o := ⟨some 46, .call ⟨.value (.func 10), #[.tmp 45], #[28]⟩, 49, _, _, none⟩) rfl (by kernel_rfl) (fun K hK => ?_)
     go_simp
     refine (h10 _ kv16).mono ?_
     rintro e v17 ⟨⟨g, rfl, hfa⟩, hcv17⟩
     go_wp2_with fail
     have kv17 : Below u.heap.size u v17 := kv16.trans (hcv17.mono lv16)
     have hdv17 : Below v16.heap.size v16 v17 := hcv17
     have SA_v17 := hidI (SA_v16.out.below hdv17)
     have bB_v17 := hidI (bB_v16.out.below hdv17 hBl_v16)
     have oB_v17 := hidI (oB_v16.out.below hdv17 hBl_v16)
     have tB_v17 := hidI (tB_v16.out.below hdv17 hBl_v16)
     have hBl_v17 := Nat.lt_of_lt_of_le hBl_v16 hdv17.size
     clear SA_v16
     clear bB_v16
     clear oB_v16
     clear tB_v16
     clear hBl_v16
     have FA_v17 := hidI hfa
     clear hfa
     have a0v17 := (kv17.cell (p := ⟨b4, 0, none⟩) hb4).trans z0
     have a1v17 := (kv17.cell (p := ⟨b4, 1, none⟩) hb4).trans z1
     have a2v17 := (kv17.cell (p := ⟨b4, 2, none⟩) hb4).trans z2
     have a3v17 := (kv17.cell (p := ⟨b5, 0, none⟩) hb5).trans z3
     have a4v17 := (kv17.cell (p := ⟨b6, 0, none⟩) hb6).trans z4
     have a5v17 := (kv17.cell (p := ⟨b6, 1, none⟩) hb6).trans z5
     have a6v17 := (kv17.cell (p := ⟨b6, 2, none⟩) hb6).trans z6
     have lv17 := kv17.size
     clear hHeld
     refine hK.out _ _ ⟨a0v17, a1v17, a2v17, a3v17, a4v17, a5v17, a6v17⟩ (fun hHeld => ?_)
     clear hK K
     try simp only [qq]
     refine rd (i := 5) (o := ⟨some 48, .call ⟨.value (.func 11), #[.tmp 47], #[30]⟩, 51, _, _, none⟩) rfl (by kernel_rfl) (fun K hK => ?_)
     go_simp
     refine (c11 m _).mono ?_
     rintro e v18 ⟨rfl, hcv18⟩
     go_wp2_with fail
     have kv18 : Below u.heap.size u v18 := kv17.trans (hcv18.mono lv17)
     have hdv18 : Below v17.heap.size v17 v18 := hcv18
     have SA_v18 := hidI (SA_v17.out.below hdv18)
     have bB_v18 := hidI (bB_v17.out.below hdv18 hBl_v17)
     have oB_v18 := hidI (oB_v17.out.below hdv18 hBl_v17)
     have tB_v18 := hidI (tB_v17.out.below hdv18 hBl_v17)
     have FA_v18 := hidI (G.T.files_below FA_v17.out hdv18)
     have hBl_v18 := Nat.lt_of_lt_of_le hBl_v17 hdv18.size
     clear SA_v17
     clear bB_v17
     clear oB_v17
     clear tB_v17
     clear FA_v17
     clear hBl_v17
     have a0v18 := (kv18.cell (p := ⟨b4, 0, none⟩) hb4).trans z0
     have a1v18 := (kv18.cell (p := ⟨b4, 1, none⟩) hb4).trans z1
     have a2v18 := (kv18.cell (p := ⟨b4, 2, none⟩) hb4).trans z2
     have a3v18 := (kv18.cell (p := ⟨b5, 0, none⟩) hb5).trans z3
     have a4v18 := (kv18.cell (p := ⟨b6, 0, none⟩) hb6).trans z4
     have a5v18 := (kv18.cell (p := ⟨b6, 1, none⟩) hb6).trans z5
     have a6v18 := (kv18.cell (p := ⟨b6, 2, none⟩) hb6).trans z6
     have lv18 := kv18.size
     clear hHeld
     refine hK.out _ _ ⟨a0v18, a1v18, a2v18, a3v18, a4v18, a5v18, a6v18⟩ (fun hHeld => ?_)
     clear hK K
     try simp only [qq]
     refine rd (i := 7) (o := ⟨some 50, .call ⟨.value (.func 12), #[.tmp 49], #[31]⟩, 53, _, _, none⟩) rfl (by kernel_rfl) (fun K hK => ?_)
     go_simp
     refine (h12 _ kv18).mono ?_
     rintro e v19 ⟨⟨q, rfl, hda⟩, hcv19⟩
     go_wp2_with fail
     have kv19 : Below u.heap.size u v19 := kv18.trans (hcv19.mono lv18)
     have hdv19 : Below v18.heap.size v18 v19 := hcv19
     have SA_v19 := hidI (SA_v18.out.below hdv19)
     have bB_v19 := hidI (bB_v18.out.below hdv19 hBl_v18)
     have oB_v19 := hidI (oB_v18.out.below hdv19 hBl_v18)
     have tB_v19 := hidI (tB_v18.out.below hdv19 hBl_v18)
     have FA_v19 := hidI (G.T.files_below FA_v18.out hdv19)
     have hBl_v19 := Nat.lt_of_lt_of_le hBl_v18 hdv19.size
     clear SA_v18
     clear bB_v18
     clear oB_v18
     clear tB_v18
     clear FA_v18
     clear hBl_v18
     have DA_v19 := hidI hda
     clear hda
     have a0v19 := (kv19.cell (p := ⟨b4, 0, none⟩) hb4).trans z0
     have a1v19 := (kv19.cell (p := ⟨b4, 1, none⟩) hb4).trans z1
     have a2v19 := (kv19.cell (p := ⟨b4, 2, none⟩) hb4).trans z2
     have a3v19 := (kv19.cell (p := ⟨b5, 0, none⟩) hb5).trans z3
     have a4v19 := (kv19.cell (p := ⟨b6, 0, none⟩) hb6).trans z4
     have a5v19 := (kv19.cell (p := ⟨b6, 1, none⟩) hb6).trans z5
     have a6v19 := (kv19.cell (p := ⟨b6, 2, none⟩) hb6).trans z6
     have lv19 := kv19.size
     clear hHeld
     refine hK.out _ _ ⟨a0v19, a1v19, a2v19, a3v19, a4v19, a5v19, a6v19⟩ (fun hHeld => ?_)
     clear hK K
     try simp only [qq]
     refine rd (i := 8) (o := ⟨some 51, .call ⟨.value (.func 8), #[.tmp 44, .tmp 46, .tmp 48, .tmp 50], #[45, 49, 51, 53]⟩, 41, _, _, none⟩) rfl (by kernel_rfl) (fun K hK => ?_)
     go_simp
     refine (hX tb rb g q _ kv19 SA_v19.out FA_v19.out DA_v19.out).mono ?_
     rintro e v20 ⟨⟨av, cv, rfl, how⟩, hcv20⟩
     go_wp2_with fail
     have kv20 : Below u.heap.size u v20 := kv19.trans (hcv20.mono lv19)
     have hdv20 : Below v19.heap.size v19 v20 := hcv20
     have SA_v20 := hidI (SA_v19.out.below hdv20)
     have bB_v20 := hidI (bB_v19.out.below hdv20 hBl_v19)
     have oB_v20 := hidI (oB_v19.out.below hdv20 hBl_v19)
     have tB_v20 := hidI (tB_v19.out.below hdv20 hBl_v19)
     have FA_v20 := hidI (G.T.files_below FA_v19.out hdv20)
     have DA_v20 := hidI (G.deeds_below DA_v19.out hdv20)
     have hBl_v20 := Nat.lt_of_lt_of_le hBl_v19 hdv20.size
     clear SA_v19
     clear bB_v19
     clear oB_v19
     clear tB_v19
     clear FA_v19
     clear DA_v19
     clear hBl_v19
     have OW_v20 : Hid (v20.ownsRow u.heap.size 108 4 (.slice av A.ls.length cv) A.ls.length (lC A.ls)) := hidI (own_low how (by first | exact lv19 | exact Nat.le_refl _))
     clear how
     have a0v20 := (kv20.cell (p := ⟨b4, 0, none⟩) hb4).trans z0
     have a1v20 := (kv20.cell (p := ⟨b4, 1, none⟩) hb4).trans z1
     have a2v20 := (kv20.cell (p := ⟨b4, 2, none⟩) hb4).trans z2
     have a3v20 := (kv20.cell (p := ⟨b5, 0, none⟩) hb5).trans z3
     have a4v20 := (kv20.cell (p := ⟨b6, 0, none⟩) hb6).trans z4
     have a5v20 := (kv20.cell (p := ⟨b6, 1, none⟩) hb6).trans z5
     have a6v20 := (kv20.cell (p := ⟨b6, 2, none⟩) hb6).trans z6
     have lv20 := kv20.size
     clear hHeld
     refine hK.out _ _ ⟨a0v20, a1v20, a2v20, a3v20, a4v20, a5v20, a6v20⟩ (fun hHeld => ?_)
     clear hK K
     try simp only [qq]
     refine tk (i := 9) (oi := ⟨some 42, .move (.tmp 51), 41, _, _, none⟩) (v := ?_) (hQ := fun _ _ _ h => hQ _ _ _ _ _ h) rfl (by kernel_rfl) rfl ?e hHeld ?_
     case e => intro wq hSw; (try dsimp only at hSw); go_simp; try with_reducible rfl
     try simp only [qq]
     refine tk (i := 10) (oi := ⟨some 52, .extract (.tmp 42) 0, 39, _, _, none⟩) (v := ?_) (hQ := fun _ _ _ h => hQ _ _ _ _ _ h) rfl (by kernel_rfl) rfl ?e hHeld ?_
     case e => intro wq hSw; (try dsimp only at hSw); go_simp; try with_reducible rfl
     try simp only [qq]
     refine tk (i := 11) (oi := ⟨some 53, .extract (.tmp 42) 1, 40, _, _, none⟩) (v := ?_) (hQ := fun _ _ _ h => hQ _ _ _ _ _ h) rfl (by kernel_rfl) rfl ?e hHeld ?_
     case e => intro wq hSw; (try dsimp only at hSw); go_simp; try with_reducible rfl
     try simp only [qq]
     refine rd (i := 13) (o := ⟨none, .store 39 (.tmp 10) (.tmp 52), 0, _, _, none⟩) rfl (by kernel_rfl) (fun K hK => ?_)
     refine step_store_blk rfl 39 (.tmp 10) (.tmp 52) rfl v1.heap.size 0 rfl [.bool A.ov, .int .i64 A.cd, .string A.tx, .bool false, .string A.nm, .int .i64 0] rfl (blk_some bB_v20.out rfl) oB_v20.out (by simp [Value.oneCell']) (by kernel_rfl) rfl ?_
     clear hHeld
     refine st_overT (old := [.bool false, .int .i64 0, .string ⟨#[]⟩, .bool false, .string ⟨#[]⟩, .int .i64 0]) (N := u.heap.size) rfl bB_v20.out oB_v20.out tB_v20.out (by omega) ?_
     intro E bE ZE OE TE hEs hE
     have kE : Below u.heap.size u E := kv20.trans bE
     have a0E := (kE.cell (p := ⟨b4, 0, none⟩) hb4).trans z0
     have a1E := (kE.cell (p := ⟨b4, 1, none⟩) hb4).trans z1
     have a2E := (kE.cell (p := ⟨b4, 2, none⟩) hb4).trans z2
     have a3E := (kE.cell (p := ⟨b5, 0, none⟩) hb5).trans z3
     have a4E := (kE.cell (p := ⟨b6, 0, none⟩) hb6).trans z4
     have a5E := (kE.cell (p := ⟨b6, 1, none⟩) hb6).trans z5
     have a6E := (kE.cell (p := ⟨b6, 2, none⟩) hb6).trans z6
     have lE := kE.size
     have RE : E.ownsRow u.heap.size 108 4 (.slice av A.ls.length cv) A.ls.length (lC A.ls) := own_keep' OW_v20.out (fun q hq => hE q (ofT_lt (own_ofT OW_v20.out hq)) (fun e => by
      have e2 := ofT_one (own_ofT OW_v20.out hq) (e ▸ tB_v20.out)
      exact absurd e2 (by decide)))
     refine hK.out _ _ ⟨a0E, a1E, a2E, a3E, a4E, a5E, a6E⟩ (fun hHeld => ?_)
     clear hK K
     try simp only [qq]
     refine tk (i := 14) (oi := ⟨some 11, .assign (.tmp 53), 40, _, _, none⟩) (v := ?_) (hQ := fun _ _ _ h => hQ _ _ _ _ _ h) rfl (by kernel_rfl) rfl ?e hHeld ?_
     case e => intro wq hSw; (try dsimp only at hSw); go_simp; try with_reducible rfl
     try simp only [qq]
     refine wpAnyH_done (by kernel_rfl) ?_ _
     clear hHeld
     exact hKK _ _ _ _ _ _ _ _ _ _ _ _ av cv v1.heap.size E kE (by omega) (by have := kE.size; have := bE.size; have := hBl_v20; omega) ZE TE RE
 · go_simp
   have kv21 : Below u.heap.size u ((u.alloc (.cells #[.bool false, .int .i64 0, .string ⟨#[]⟩, .bool false, .string ⟨#[]⟩, .int .i64 0] 39)).drew) := (ku.alloc lu _).drew
   have bB_v21 : Hid (BlkAt ((u.alloc (.cells #[.bool false, .int .i64 0, .string ⟨#[]⟩, .bool false, .string ⟨#[]⟩, .int .i64 0] 39)).drew) u.heap.size [.bool false, .int .i64 0, .string ⟨#[]⟩, .bool false, .string ⟨#[]⟩, .int .i64 0]) := hidI (blk_new u [.bool false, .int .i64 0, .string ⟨#[]⟩, .bool false, .string ⟨#[]⟩, .int .i64 0] 39)
   have oB_v21 : Hid (OpnAt ((u.alloc (.cells #[.bool false, .int .i64 0, .string ⟨#[]⟩, .bool false, .string ⟨#[]⟩, .int .i64 0] 39)).drew) u.heap.size) := hidI (opn_new u #[.bool false, .int .i64 0, .string ⟨#[]⟩, .bool false, .string ⟨#[]⟩, .int .i64 0] 39)
   have tB_v21 : Hid (OfT ((u.alloc (.cells #[.bool false, .int .i64 0, .string ⟨#[]⟩, .bool false, .string ⟨#[]⟩, .int .i64 0] 39)).drew) u.heap.size 39) := hidI (ofT_new u #[.bool false, .int .i64 0, .string ⟨#[]⟩, .bool false, .string ⟨#[]⟩, .int .i64 0] 39)
   have hBl_v21 : u.heap.size < ((u.alloc (.cells #[.bool false, .int .i64 0, .string ⟨#[]⟩, .bool false, .string ⟨#[]⟩, .int .i64 0] 39)).drew).heap.size := by simp
   have hdv21 : Below u.heap.size u ((u.alloc (.cells #[.bool false, .int .i64 0, .string ⟨#[]⟩, .bool false, .string ⟨#[]⟩, .int .i64 0] 39)).drew) := ((Below.refl _ _).alloc (Nat.le_refl _) _).drew
   have a0v21 := (kv21.cell (p := ⟨b4, 0, none⟩) hb4).trans z0
   have a1v21 := (kv21.cell (p := ⟨b4, 1, none⟩) hb4).trans z1
   have a2v21 := (kv21.cell (p := ⟨b4, 2, none⟩) hb4).trans z2
   have a3v21 := (kv21.cell (p := ⟨b5, 0, none⟩) hb5).trans z3
   have a4v21 := (kv21.cell (p := ⟨b6, 0, none⟩) hb6).trans z4
   have a5v21 := (kv21.cell (p := ⟨b6, 1, none⟩) hb6).trans z5
   have a6v21 := (kv21.cell (p := ⟨b6, 2, none⟩) hb6).trans z6
   have lv21 := kv21.size
   clear hHeld
   refine hK.out _ _ ⟨a0v21, a1v21, a2v21, a3v21, a4v21, a5v21, a6v21⟩ (fun hHeld => ?_)
   clear hK K
   try simp only [qq]
   generalize ((u.alloc (.cells #[.bool false, .int .i64 0, .string ⟨#[]⟩, .bool false, .string ⟨#[]⟩, .int .i64 0] 39)).drew) = v21 at *
   refine rd (i := 1) (o := ⟨some 44, .call ⟨.value (.func 9), #[.tmp 43], #[25]⟩, 45, _, _, none⟩) rfl (by kernel_rfl) (fun K hK => ?_)
   go_simp
   refine (h9 _ kv21).mono ?_
   rintro e v22 ⟨⟨tb, rb, rfl, hsa⟩, hcv22⟩
   go_wp2_with fail
   have kv22 : Below u.heap.size u v22 := kv21.trans (hcv22.mono lv21)
   have hdv22 : Below v21.heap.size v21 v22 := hcv22
   have bB_v22 := hidI (bB_v21.out.below hdv22 hBl_v21)
   have oB_v22 := hidI (oB_v21.out.below hdv22 hBl_v21)
   have tB_v22 := hidI (tB_v21.out.below hdv22 hBl_v21)
   have hBl_v22 := Nat.lt_of_lt_of_le hBl_v21 hdv22.size
   clear bB_v21
   clear oB_v21
   clear tB_v21
   clear hBl_v21
   have SA_v22 := hidI hsa
   clear hsa
   have a0v22 := (kv22.cell (p := ⟨b4, 0, none⟩) hb4).trans z0
   have a1v22 := (kv22.cell (p := ⟨b4, 1, none⟩) hb4).trans z1
   have a2v22 := (kv22.cell (p := ⟨b4, 2, none⟩) hb4).trans z2
   have a3v22 := (kv22.cell (p := ⟨b5, 0, none⟩) hb5).trans z3
   have a4v22 := (kv22.cell (p := ⟨b6, 0, none⟩) hb6).trans z4
   have a5v22 := (kv22.cell (p := ⟨b6, 1, none⟩) hb6).trans z5
   have a6v22 := (kv22.cell (p := ⟨b6, 2, none⟩) hb6).trans z6
   have lv22 := kv22.size
   clear hHeld
   refine hK.out _ _ ⟨a0v22, a1v22, a2v22, a3v22, a4v22, a5v22, a6v22⟩ (fun hHeld => ?_)
   clear hK K
   try simp only [qq]
   refine rd (i := 3) (o := ⟨some 46, .call ⟨.value (.func 10), #[.tmp 45], #[28]⟩, 49, _, _, none⟩) rfl (by kernel_rfl) (fun K hK => ?_)
   go_simp
   refine (h10 _ kv22).mono ?_
   rintro e v23 ⟨⟨g, rfl, hfa⟩, hcv23⟩
   go_wp2_with fail
   have kv23 : Below u.heap.size u v23 := kv22.trans (hcv23.mono lv22)
   have hdv23 : Below v22.heap.size v22 v23 := hcv23
   have bB_v23 := hidI (bB_v22.out.below hdv23 hBl_v22)
   have oB_v23 := hidI (oB_v22.out.below hdv23 hBl_v22)
   have tB_v23 := hidI (tB_v22.out.below hdv23 hBl_v22)
   have SA_v23 := hidI (SA_v22.out.below hdv23)
   have hBl_v23 := Nat.lt_of_lt_of_le hBl_v22 hdv23.size
   clear bB_v22
   clear oB_v22
   clear tB_v22
   clear SA_v22
   clear hBl_v22
   have FA_v23 := hidI hfa
   clear hfa
   have a0v23 := (kv23.cell (p := ⟨b4, 0, none⟩) hb4).trans z0
   have a1v23 := (kv23.cell (p := ⟨b4, 1, none⟩) hb4).trans z1
   have a2v23 := (kv23.cell (p := ⟨b4, 2, none⟩) hb4).trans z2
   have a3v23 := (kv23.cell (p := ⟨b5, 0, none⟩) hb5).trans z3
   have a4v23 := (kv23.cell (p := ⟨b6, 0, none⟩) hb6).trans z4
   have a5v23 := (kv23.cell (p := ⟨b6, 1, none⟩) hb6).trans z5
   have a6v23 := (kv23.cell (p := ⟨b6, 2, none⟩) hb6).trans z6
   have lv23 := kv23.size
   clear hHeld
   refine hK.out _ _ ⟨a0v23, a1v23, a2v23, a3v23, a4v23, a5v23, a6v23⟩ (fun hHeld => ?_)
   clear hK K
   try simp only [qq]
   refine rd (i := 5) (o := ⟨some 48, .call ⟨.value (.func 11), #[.tmp 47], #[30]⟩, 51, _, _, none⟩) rfl (by kernel_rfl) (fun K hK => ?_)
   go_simp
   refine (c11 m _).mono ?_
   rintro e v24 ⟨rfl, hcv24⟩
   go_wp2_with fail
   have kv24 : Below u.heap.size u v24 := kv23.trans (hcv24.mono lv23)
   have hdv24 : Below v23.heap.size v23 v24 := hcv24
   have bB_v24 := hidI (bB_v23.out.below hdv24 hBl_v23)
   have oB_v24 := hidI (oB_v23.out.below hdv24 hBl_v23)
   have tB_v24 := hidI (tB_v23.out.below hdv24 hBl_v23)
   have SA_v24 := hidI (SA_v23.out.below hdv24)
   have FA_v24 := hidI (G.T.files_below FA_v23.out hdv24)
   have hBl_v24 := Nat.lt_of_lt_of_le hBl_v23 hdv24.size
   clear bB_v23
   clear oB_v23
   clear tB_v23
   clear SA_v23
   clear FA_v23
   clear hBl_v23
   have a0v24 := (kv24.cell (p := ⟨b4, 0, none⟩) hb4).trans z0
   have a1v24 := (kv24.cell (p := ⟨b4, 1, none⟩) hb4).trans z1
   have a2v24 := (kv24.cell (p := ⟨b4, 2, none⟩) hb4).trans z2
   have a3v24 := (kv24.cell (p := ⟨b5, 0, none⟩) hb5).trans z3
   have a4v24 := (kv24.cell (p := ⟨b6, 0, none⟩) hb6).trans z4
   have a5v24 := (kv24.cell (p := ⟨b6, 1, none⟩) hb6).trans z5
   have a6v24 := (kv24.cell (p := ⟨b6, 2, none⟩) hb6).trans z6
   have lv24 := kv24.size
   clear hHeld
   refine hK.out _ _ ⟨a0v24, a1v24, a2v24, a3v24, a4v24, a5v24, a6v24⟩ (fun hHeld => ?_)
   clear hK K
   try simp only [qq]
   refine rd (i := 7) (o := ⟨some 50, .call ⟨.value (.func 12), #[.tmp 49], #[31]⟩, 53, _, _, none⟩) rfl (by kernel_rfl) (fun K hK => ?_)
   go_simp
   refine (h12 _ kv24).mono ?_
   rintro e v25 ⟨⟨q, rfl, hda⟩, hcv25⟩
   go_wp2_with fail
   have kv25 : Below u.heap.size u v25 := kv24.trans (hcv25.mono lv24)
   have hdv25 : Below v24.heap.size v24 v25 := hcv25
   have bB_v25 := hidI (bB_v24.out.below hdv25 hBl_v24)
   have oB_v25 := hidI (oB_v24.out.below hdv25 hBl_v24)
   have tB_v25 := hidI (tB_v24.out.below hdv25 hBl_v24)
   have SA_v25 := hidI (SA_v24.out.below hdv25)
   have FA_v25 := hidI (G.T.files_below FA_v24.out hdv25)
   have hBl_v25 := Nat.lt_of_lt_of_le hBl_v24 hdv25.size
   clear bB_v24
   clear oB_v24
   clear tB_v24
   clear SA_v24
   clear FA_v24
   clear hBl_v24
   have DA_v25 := hidI hda
   clear hda
   have a0v25 := (kv25.cell (p := ⟨b4, 0, none⟩) hb4).trans z0
   have a1v25 := (kv25.cell (p := ⟨b4, 1, none⟩) hb4).trans z1
   have a2v25 := (kv25.cell (p := ⟨b4, 2, none⟩) hb4).trans z2
   have a3v25 := (kv25.cell (p := ⟨b5, 0, none⟩) hb5).trans z3
   have a4v25 := (kv25.cell (p := ⟨b6, 0, none⟩) hb6).trans z4
   have a5v25 := (kv25.cell (p := ⟨b6, 1, none⟩) hb6).trans z5
   have a6v25 := (kv25.cell (p := ⟨b6, 2, none⟩) hb6).trans z6
   have lv25 := kv25.size
   clear hHeld
   refine hK.out _ _ ⟨a0v25, a1v25, a2v25, a3v25, a4v25, a5v25, a6v25⟩ (fun hHeld => ?_)
   clear hK K
   try simp only [qq]
   refine rd (i := 8) (o := ⟨some 51, .call ⟨.value (.func 8), #[.tmp 44, .tmp 46, .tmp 48, .tmp 50], #[45, 49, 51, 53]⟩, 41, _, _, none⟩) rfl (by kernel_rfl) (fun K hK => ?_)
   go_simp
   refine (hX tb rb g q _ kv25 SA_v25.out FA_v25.out DA_v25.out).mono ?_
   rintro e v26 ⟨⟨av, cv, rfl, how⟩, hcv26⟩
   go_wp2_with fail
   have kv26 : Below u.heap.size u v26 := kv25.trans (hcv26.mono lv25)
   have hdv26 : Below v25.heap.size v25 v26 := hcv26
   have bB_v26 := hidI (bB_v25.out.below hdv26 hBl_v25)
   have oB_v26 := hidI (oB_v25.out.below hdv26 hBl_v25)
   have tB_v26 := hidI (tB_v25.out.below hdv26 hBl_v25)
   have SA_v26 := hidI (SA_v25.out.below hdv26)
   have FA_v26 := hidI (G.T.files_below FA_v25.out hdv26)
   have DA_v26 := hidI (G.deeds_below DA_v25.out hdv26)
   have hBl_v26 := Nat.lt_of_lt_of_le hBl_v25 hdv26.size
   clear bB_v25
   clear oB_v25
   clear tB_v25
   clear SA_v25
   clear FA_v25
   clear DA_v25
   clear hBl_v25
   have OW_v26 : Hid (v26.ownsRow u.heap.size 108 4 (.slice av A.ls.length cv) A.ls.length (lC A.ls)) := hidI (own_low how (by first | exact lv25 | exact Nat.le_refl _))
   clear how
   have a0v26 := (kv26.cell (p := ⟨b4, 0, none⟩) hb4).trans z0
   have a1v26 := (kv26.cell (p := ⟨b4, 1, none⟩) hb4).trans z1
   have a2v26 := (kv26.cell (p := ⟨b4, 2, none⟩) hb4).trans z2
   have a3v26 := (kv26.cell (p := ⟨b5, 0, none⟩) hb5).trans z3
   have a4v26 := (kv26.cell (p := ⟨b6, 0, none⟩) hb6).trans z4
   have a5v26 := (kv26.cell (p := ⟨b6, 1, none⟩) hb6).trans z5
   have a6v26 := (kv26.cell (p := ⟨b6, 2, none⟩) hb6).trans z6
   have lv26 := kv26.size
   clear hHeld
   refine hK.out _ _ ⟨a0v26, a1v26, a2v26, a3v26, a4v26, a5v26, a6v26⟩ (fun hHeld => ?_)
   clear hK K
   try simp only [qq]
   refine tk (i := 9) (oi := ⟨some 42, .move (.tmp 51), 41, _, _, none⟩) (v := ?_) (hQ := fun _ _ _ h => hQ _ _ _ _ _ h) rfl (by kernel_rfl) rfl ?e hHeld ?_
   case e => intro wq hSw; (try dsimp only at hSw); go_simp; try with_reducible rfl
   try simp only [qq]
   refine tk (i := 10) (oi := ⟨some 52, .extract (.tmp 42) 0, 39, _, _, none⟩) (v := ?_) (hQ := fun _ _ _ h => hQ _ _ _ _ _ h) rfl (by kernel_rfl) rfl ?e hHeld ?_
   case e => intro wq hSw; (try dsimp only at hSw); go_simp; try with_reducible rfl
   try simp only [qq]
   refine tk (i := 11) (oi := ⟨some 53, .extract (.tmp 42) 1, 40, _, _, none⟩) (v := ?_) (hQ := fun _ _ _ h => hQ _ _ _ _ _ h) rfl (by kernel_rfl) rfl ?e hHeld ?_
   case e => intro wq hSw; (try dsimp only at hSw); go_simp; try with_reducible rfl
   try simp only [qq]
   refine rd (i := 13) (o := ⟨none, .store 39 (.tmp 10) (.tmp 52), 0, _, _, none⟩) rfl (by kernel_rfl) (fun K hK => ?_)
   refine step_store_blk rfl 39 (.tmp 10) (.tmp 52) rfl u.heap.size 0 rfl [.bool A.ov, .int .i64 A.cd, .string A.tx, .bool false, .string A.nm, .int .i64 0] rfl (blk_some bB_v26.out rfl) oB_v26.out (by simp [Value.oneCell']) (by kernel_rfl) rfl ?_
   clear hHeld
   refine st_overT (old := [.bool false, .int .i64 0, .string ⟨#[]⟩, .bool false, .string ⟨#[]⟩, .int .i64 0]) (N := u.heap.size) rfl bB_v26.out oB_v26.out tB_v26.out (by omega) ?_
   intro E bE ZE OE TE hEs hE
   have kE : Below u.heap.size u E := kv26.trans bE
   have a0E := (kE.cell (p := ⟨b4, 0, none⟩) hb4).trans z0
   have a1E := (kE.cell (p := ⟨b4, 1, none⟩) hb4).trans z1
   have a2E := (kE.cell (p := ⟨b4, 2, none⟩) hb4).trans z2
   have a3E := (kE.cell (p := ⟨b5, 0, none⟩) hb5).trans z3
   have a4E := (kE.cell (p := ⟨b6, 0, none⟩) hb6).trans z4
   have a5E := (kE.cell (p := ⟨b6, 1, none⟩) hb6).trans z5
   have a6E := (kE.cell (p := ⟨b6, 2, none⟩) hb6).trans z6
   have lE := kE.size
   have RE : E.ownsRow u.heap.size 108 4 (.slice av A.ls.length cv) A.ls.length (lC A.ls) := own_keep' OW_v26.out (fun q hq => hE q (ofT_lt (own_ofT OW_v26.out hq)) (fun e => by
    have e2 := ofT_one (own_ofT OW_v26.out hq) (e ▸ tB_v26.out)
    exact absurd e2 (by decide)))
   refine hK.out _ _ ⟨a0E, a1E, a2E, a3E, a4E, a5E, a6E⟩ (fun hHeld => ?_)
   clear hK K
   try simp only [qq]
   refine tk (i := 14) (oi := ⟨some 11, .assign (.tmp 53), 40, _, _, none⟩) (v := ?_) (hQ := fun _ _ _ h => hQ _ _ _ _ _ h) rfl (by kernel_rfl) rfl ?e hHeld ?_
   case e => intro wq hSw; (try dsimp only at hSw); go_simp; try with_reducible rfl
   try simp only [qq]
   refine wpAnyH_done (by kernel_rfl) ?_ _
   clear hHeld
   exact hKK _ _ _ _ _ _ _ _ _ _ _ _ av cv u.heap.size E kE (by omega) (by have := kE.size; have := bE.size; have := hBl_v26; omega) ZE TE RE
end Go.Proofs.YtboojefodbjbcaaGreatDoor
