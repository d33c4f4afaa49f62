import Derived.Test.YtboojefodbjbcaaGreatDoorZR00
import Derived.Test.YtboojefodbjbcaaGreatDoorRG
import Derived.Test.YtboojefodbjbcaaGreatDoorZR29
import Derived.Test.YtboojefodbjbcaaGreatDoorZR44
namespace Go.Proofs.YtboojefodbjbcaaGreatDoor
open Go.RowKit Go.Maps
set_option maxRecDepth 100000
set_option linter.unusedVariables false
set_option linter.unusedSimpArgs false
set_option maxHeartbeats 16000000 in
theorem rl18 {K : Act → World → Prop} {Q : Exit → Act → World → Prop} {d0 d1 d2 d3 d4 d5 d7 d8 d9 d10 d11 d15 d16 d17 d18 d19 d20 d21 d22 d23 d24 d25 d26 d27 d28 d29 d30 d31 d32 d33 d34 d35 d36 d37 d38 d39 d40 d41 d42 d43 d44 d45 d46 d47 d48 d49 d50 d51 d52 d53 d54 d55 d56 d57 d58 d59 d60 d61 d62 d63 d64 d65 d66 d67 d68 d69 d70 d71 d72 d73 d74 d75 d76 d77 d78 d79 d80 d81 d82 d83 d84 d85 d86 d87 d88 d89 d90 d91 d92 d93 d94 d95 d96 d97 d98 d99 d100 d101 d102 d103 d104 d105 d106 d107 d108 d109 d110 d111 d112 d113 d114 d115 d116 d117 d118 d119 d120 d121 d122 d123 d124 d125 d126 d127 d128 d129 d130 d131 d132 d133 d134 d135 d136 d137 d138 d139 d140 d141 d142 d143 d144 d145 d146 d147 d148 d149 d150 d151 d152 d153 d154 d155 d156 d157 : Value} {s : St} {fs : List G.T.F2} {m : M3} {ds : List G.D8} {A : An} {b12 b13 b6 : Nat} {u : World} {tb rb g q : Nat} (hb12 : b12 < u.heap.size) (hb13 : b13 < u.heap.size) (hb6 : b6 < u.heap.size) (z0 : u.cell? ⟨b12, 0, none⟩ = some (.int .i64 s.wd)) (z1 : u.cell? ⟨b12, 1, none⟩ = some (.slice (some ⟨tb, 0, none⟩) s.ts.length s.ts.length)) (z2 : u.cell? ⟨b12, 2, none⟩ = some (.slice (some ⟨rb, 0, none⟩) s.rs.length s.rs.length)) (z3 : u.cell? ⟨b13, 0, none⟩ = some (.slice (some ⟨g, 0, none⟩) fs.length fs.length)) (z4 : u.cell? ⟨b6, 0, none⟩ = some (.string m.nm)) (z5 : u.cell? ⟨b6, 1, none⟩ = some (.string m.tl)) (z6 : u.cell? ⟨b6, 2, none⟩ = some (.string m.ar)) (SA0 : Hid (StAt u (some ⟨tb, 0, none⟩) (some ⟨rb, 0, none⟩) s)) (FA0 : Hid (G.T.FilesAt u (some ⟨g, 0, none⟩) fs)) (DA0 : Hid (G.DeedsAt u (some ⟨q, 0, none⟩) ds)) (hX : ∀ tb rb g q v, Below u.heap.size u v → StAt v (some ⟨tb, 0, none⟩) (some ⟨rb, 0, none⟩) s → G.T.FilesAt v (some ⟨g, 0, none⟩) fs → G.DeedsAt v (some ⟨q, 0, none⟩) ds → Calls Tryz.prog 13 #[.agg #[.int .i64 s.wd, .slice (some ⟨tb, 0, none⟩) s.ts.length s.ts.length, .slice (some ⟨rb, 0, none⟩) s.rs.length s.rs.length], .agg #[.slice (some ⟨g, 0, none⟩) fs.length fs.length], .agg #[.string m.nm, .string m.tl, .string m.ar], .slice (some ⟨q, 0, none⟩) ds.length ds.length] v fun e w' => (∃ av cv, e = .returned (.tuple #[.agg #[.bool A.ov, .int .i64 A.cd, .string A.tx, .bool false, .string A.nm, .int .i64 0], (.slice av A.ls.length cv)]) ∧ w'.ownsRow v.heap.size 108 4 (.slice av A.ls.length cv) A.ls.length (lC A.ls)) ∧ Below v.heap.size v w')
 (hQ : ∀ (d : Nat) v c (a : Act) w, Q (.panic c) (a.put (some d) v) w → Q (.panic c) a w) (hKK : ∀ (y61 y62 y63 y64 y65 y66 y60 y67 y68 : Value) (av : Option Addr) (cv B : Nat) (E : World), Below u.heap.size u E → u.heap.size ≤ B → B < E.heap.size → BlkAt E B [.bool A.ov, .int .i64 A.cd, .string A.tx, .bool false, .string A.nm, .int .i64 0] → OfT E B 39 → E.ownsRow u.heap.size 108 4 (.slice av A.ls.length cv) A.ls.length (lC A.ls) → K { tmps := #[d0, d1, d2, d3, d4, d5, .pointer (some ⟨b6, 0, none⟩), d7, d8, d9, d10, d11, .pointer (some ⟨b12, 0, none⟩), .pointer (some ⟨b13, 0, none⟩), .slice (some ⟨q, 0, none⟩) ds.length ds.length, .pointer (some ⟨B, 0, none⟩), .slice av A.ls.length cv, d17, d18, d19, d20, d21, d22, d23, d24, d25, d26, d27, d28, d29, d30, d31, d32, d33, d34, d35, d36, d37, d38, d39, d40, d41, d42, d43, d44, d45, d46, d47, d48, d49, d50, d51, d52, d53, d54, d55, d56, d57, d58, d59, y60, y61, y62, y63, y64, y65, y66, y67, y68, d69, d70, d71, d72, d73, d74, d75, d76, d77, d78, d79, d80, d81, d82, d83, d84, d85, d86, d87, d88, d89, d90, d91, d92, d93, d94, d95, d96, d97, d98, d99, d100, d101, d102, d103, d104, d105, d106, d107, d108, d109, d110, d111, d112, d113, d114, d115, d116, d117, d118, d119, d120, d121, d122, d123, d124, d125, d126, d127, d128, d129, d130, d131, d132, d133, d134, d135, d136, d137, d138, d139, d140, d141, d142, d143, d144, d145, d146, d147, d148, d149, d150, d151, d152, d153, d154, d155, d156, d157], defers := [] } E) :
 Code.wp Tryz.prog (Code.region 18 #[⟨some 61, .load 45 (.tmp 12), 45, "exact.go:3624", #[], none⟩, ⟨some 62, .load 49 (.tmp 13), 49, "exact.go:3624", #[], none⟩, ⟨some 63, .load 30 (.tmp 6), 30, "exact.go:3624", #[], none⟩, ⟨some 64, .call ⟨.value (.func 11), #[.tmp 63], #[30]⟩, 51, "exact.go:3624", #[⟨2, .data⟩], none⟩, ⟨some 65, .move (.tmp 14), 53, "exact.go:3624", #[], none⟩, ⟨some 66, .call ⟨.value (.func 13), #[.tmp 61, .tmp 62, .tmp 64, .tmp 65], #[45, 49, 51, 53]⟩, 41, "exact.go:3624", #[⟨0, .data⟩, ⟨1, .data⟩, ⟨3, .data⟩, ⟨4, .data⟩, ⟨3, .chain⟩], none⟩, ⟨some 60, .move (.tmp 66), 41, "exact.go:3624", #[⟨5, .data⟩], none⟩, ⟨some 67, .extract (.tmp 60) 0, 39, "exact.go:3624", #[⟨6, .data⟩], none⟩, ⟨some 68, .extract (.tmp 60) 1, 40, "exact.go:3624", #[⟨6, .data⟩, ⟨10, .gcOnly .lateStores⟩], none⟩, ⟨some 15, .alloc 39, 0, "exact.go:3624", #[], none⟩, ⟨none, .store 39 (.tmp 15) (.tmp 67), 0, "exact.go:3624", #[⟨9, .data⟩, ⟨7, .data⟩, ⟨5, .chain⟩, ⟨0, .phase⟩, ⟨1, .phase⟩, ⟨2, .phase⟩, ⟨3, .phase⟩, ⟨4, .phase⟩, ⟨5, .phase⟩, ⟨6, .phase⟩, ⟨7, .phase⟩, ⟨8, .textOnly .lateStores⟩, ⟨9, .phase⟩], none⟩, ⟨some 16, .assign (.tmp 68), 40, "exact.go:3624", #[⟨8, .data⟩, ⟨10, .chain⟩, ⟨0, .phase⟩, ⟨1, .phase⟩, ⟨2, .phase⟩, ⟨3, .phase⟩, ⟨4, .phase⟩, ⟨5, .phase⟩, ⟨6, .phase⟩, ⟨7, .phase⟩, ⟨8, .phase⟩, ⟨9, .phase⟩, ⟨10, .phase⟩], none⟩] true) (Exit.then K Q) { tmps := #[d0, d1, d2, d3, d4, d5, .pointer (some ⟨b6, 0, none⟩), d7, d8, d9, d10, d11, .pointer (some ⟨b12, 0, none⟩), .pointer (some ⟨b13, 0, none⟩), .slice (some ⟨q, 0, none⟩) ds.length ds.length, d15, d16, d17, d18, d19, d20, d21, d22, d23, d24, d25, d26, d27, d28, d29, d30, d31, d32, d33, d34, d35, d36, d37, d38, d39, d40, d41, d42, d43, d44, d45, d46, d47, d48, d49, d50, d51, d52, d53, d54, d55, d56, d57, d58, d59, d60, d61, d62, d63, d64, d65, d66, d67, d68, d69, d70, d71, d72, d73, d74, d75, d76, d77, d78, d79, d80, d81, d82, d83, d84, d85, d86, d87, d88, d89, d90, d91, d92, d93, d94, d95, d96, d97, d98, d99, d100, d101, d102, d103, d104, d105, d106, d107, d108, d109, d110, d111, d112, d113, d114, d115, d116, d117, d118, d119, d120, d121, d122, d123, d124, d125, d126, d127, d128, d129, d130, d131, d132, d133, d134, d135, d136, d137, d138, d139, d140, d141, d142, d143, d144, d145, d146, d147, d148, d149, d150, d151, d152, d153, d154, d155, d156, d157], defers := [] } u := by
 have ku : Below u.heap.size u u := Below.refl _ _
 have lu : u.heap.size ≤ u.heap.size := Nat.le_refl _
 refine wp_region_held_drew (S := (fun u => u.cell? ⟨b12, 0, none⟩ = some (.int .i64 s.wd) ∧ u.cell? ⟨b12, 1, none⟩ = some (.slice (some ⟨tb, 0, none⟩) s.ts.length s.ts.length) ∧ u.cell? ⟨b12, 2, none⟩ = some (.slice (some ⟨rb, 0, none⟩) s.rs.length s.rs.length) ∧ u.cell? ⟨b13, 0, none⟩ = some (.slice (some ⟨g, 0, none⟩) fs.length fs.length) ∧ u.cell? ⟨b6, 0, none⟩ = some (.string m.nm) ∧ u.cell? ⟨b6, 1, none⟩ = some (.string m.tl) ∧ u.cell? ⟨b6, 2, none⟩ = some (.string m.ar))) (by kernel_rfl) ?_ (fun hHeld => ?_)
 · exact ⟨z0, z1, z2, z3, z4, z5, z6⟩
 refine tk (i := 0) (oi := ⟨some 61, .load 45 (.tmp 12), 45, _, _, none⟩) (v := ?_) (hQ := fun _ _ _ h => hQ _ _ _ _ _ h) rfl (by kernel_rfl) rfl ?e hHeld ?_
 case e => intro wq hSw; (try dsimp only at hSw); go_simp; try with_reducible rfl
 try simp only [qq]
 refine tk (i := 1) (oi := ⟨some 62, .load 49 (.tmp 13), 49, _, _, none⟩) (v := ?_) (hQ := fun _ _ _ h => hQ _ _ _ _ _ h) rfl (by kernel_rfl) rfl ?e hHeld ?_
 case e => intro wq hSw; (try dsimp only at hSw); go_simp; try with_reducible rfl
 try simp only [qq]
 refine tk (i := 2) (oi := ⟨some 63, .load 30 (.tmp 6), 30, _, _, none⟩) (v := ?_) (hQ := fun _ _ _ h => hQ _ _ _ _ _ h) rfl (by kernel_rfl) rfl ?e hHeld ?_
 case e => intro wq hSw; (try dsimp only at hSw); go_simp; try with_reducible rfl
 try simp only [qq]
 refine tk (i := 4) (oi := ⟨some 65, .move (.tmp 14), 53, _, _, none⟩) (v := ?_) (hQ := fun _ _ _ h => hQ _ _ _ _ _ h) rfl (by kernel_rfl) rfl ?e hHeld ?_
 case e => intro wq hSw; (try dsimp only at hSw); go_simp; try with_reducible rfl
 try simp only [qq]
 refine wpAnyH_ready (rs := [3, 9]) (by kernel_rfl) (by simp) ?_
 refine AllReadyH.cons (o := ⟨some 64, .call ⟨.value (.func 11), #[.tmp 63], #[30]⟩, 51, _, _, none⟩) rfl (fun K hK => ?_) (AllReadyH.cons (o := ⟨some 15, .alloc 39, 0, _, _, none⟩) rfl (fun K hK => ?_) AllReadyH.nil)
 · go_simp
   refine (c11 m _).mono ?_
   rintro e v1 ⟨rfl, hcv1⟩
   go_wp2_with fail
   have kv1 : Below u.heap.size u v1 := ku.drew.trans hcv1
   have hdv1 : Below u.heap.size u v1 := ku.drew.trans hcv1
   have SA_v1 := hidI (SA0.out.below hdv1)
   have FA_v1 := hidI (G.T.files_below FA0.out hdv1)
   have DA_v1 := hidI (G.deeds_below DA0.out hdv1)
   have a0v1 := (kv1.cell (p := ⟨b12, 0, none⟩) hb12).trans z0
   have a1v1 := (kv1.cell (p := ⟨b12, 1, none⟩) hb12).trans z1
   have a2v1 := (kv1.cell (p := ⟨b12, 2, none⟩) hb12).trans z2
   have a3v1 := (kv1.cell (p := ⟨b13, 0, none⟩) hb13).trans z3
   have a4v1 := (kv1.cell (p := ⟨b6, 0, none⟩) hb6).trans z4
   have a5v1 := (kv1.cell (p := ⟨b6, 1, none⟩) hb6).trans z5
   have a6v1 := (kv1.cell (p := ⟨b6, 2, none⟩) hb6).trans z6
   have lv1 := kv1.size
   clear hHeld
   refine hK.out _ _ ⟨a0v1, a1v1, a2v1, a3v1, a4v1, a5v1, a6v1⟩ (fun hHeld => ?_)
   clear hK K
   try simp only [qq]
   refine wpAnyH_ready (rs := [5, 9]) (by kernel_rfl) (by simp) ?_
   refine AllReadyH.cons (o := ⟨some 66, .call ⟨.value (.func 13), #[.tmp 61, .tmp 62, .tmp 64, .tmp 65], #[45, 49, 51, 53]⟩, 41, _, _, none⟩) rfl (fun K hK => ?_) (AllReadyH.cons (o := ⟨some 15, .alloc 39, 0, _, _, none⟩) rfl (fun K hK => ?_) AllReadyH.nil)
   · go_simp
     refine (hX tb rb g q _ kv1 SA_v1.out FA_v1.out DA_v1.out).mono ?_
     rintro e v2 ⟨⟨av, cv, rfl, how⟩, hcv2⟩
     go_wp2_with fail
     have kv2 : Below u.heap.size u v2 := kv1.trans (hcv2.mono lv1)
     have hdv2 : Below v1.heap.size v1 v2 := hcv2
     have SA_v2 := hidI (SA_v1.out.below hdv2)
     have FA_v2 := hidI (G.T.files_below FA_v1.out hdv2)
     have DA_v2 := hidI (G.deeds_below DA_v1.out hdv2)
     clear SA_v1
     clear FA_v1
     clear DA_v1
     have OW_v2 : Hid (v2.ownsRow u.heap.size 108 4 (.slice av A.ls.length cv) A.ls.length (lC A.ls)) := hidI (own_low how (by first | exact lv1 | exact Nat.le_refl _))
     clear how
     have a0v2 := (kv2.cell (p := ⟨b12, 0, none⟩) hb12).trans z0
     have a1v2 := (kv2.cell (p := ⟨b12, 1, none⟩) hb12).trans z1
     have a2v2 := (kv2.cell (p := ⟨b12, 2, none⟩) hb12).trans z2
     have a3v2 := (kv2.cell (p := ⟨b13, 0, none⟩) hb13).trans z3
     have a4v2 := (kv2.cell (p := ⟨b6, 0, none⟩) hb6).trans z4
     have a5v2 := (kv2.cell (p := ⟨b6, 1, none⟩) hb6).trans z5
     have a6v2 := (kv2.cell (p := ⟨b6, 2, none⟩) hb6).trans z6
     have lv2 := kv2.size
     clear hHeld
     refine hK.out _ _ ⟨a0v2, a1v2, a2v2, a3v2, a4v2, a5v2, a6v2⟩ (fun hHeld => ?_)
     clear hK K
     try simp only [qq]
     refine tk (i := 6) (oi := ⟨some 60, .move (.tmp 66), 41, _, _, none⟩) (v := ?_) (hQ := fun _ _ _ h => hQ _ _ _ _ _ h) rfl (by kernel_rfl) rfl ?e hHeld ?_
     case e => intro wq hSw; (try dsimp only at hSw); go_simp; try with_reducible rfl
     try simp only [qq]
     refine tk (i := 7) (oi := ⟨some 67, .extract (.tmp 60) 0, 39, _, _, none⟩) (v := ?_) (hQ := fun _ _ _ h => hQ _ _ _ _ _ h) rfl (by kernel_rfl) rfl ?e hHeld ?_
     case e => intro wq hSw; (try dsimp only at hSw); go_simp; try with_reducible rfl
     try simp only [qq]
     refine tk (i := 8) (oi := ⟨some 68, .extract (.tmp 60) 1, 40, _, _, none⟩) (v := ?_) (hQ := fun _ _ _ h => hQ _ _ _ _ _ h) rfl (by kernel_rfl) rfl ?e hHeld ?_
     case e => intro wq hSw; (try dsimp only at hSw); go_simp; try with_reducible rfl
     try simp only [qq]
     refine rd (i := 9) (o := ⟨some 15, .alloc 39, 0, _, _, none⟩) rfl (by kernel_rfl) (fun K hK => ?_)
     go_simp
     have kv3 : Below u.heap.size u (v2.alloc (.cells #[.bool false, .int .i64 0, .string ⟨#[]⟩, .bool false, .string ⟨#[]⟩, .int .i64 0] 39)) := (kv2.alloc lv2 _)
     have bB_v3 : Hid (BlkAt (v2.alloc (.cells #[.bool false, .int .i64 0, .string ⟨#[]⟩, .bool false, .string ⟨#[]⟩, .int .i64 0] 39)) v2.heap.size [.bool false, .int .i64 0, .string ⟨#[]⟩, .bool false, .string ⟨#[]⟩, .int .i64 0]) := hidI (blk_new v2 [.bool false, .int .i64 0, .string ⟨#[]⟩, .bool false, .string ⟨#[]⟩, .int .i64 0] 39)
     have oB_v3 : Hid (OpnAt (v2.alloc (.cells #[.bool false, .int .i64 0, .string ⟨#[]⟩, .bool false, .string ⟨#[]⟩, .int .i64 0] 39)) v2.heap.size) := hidI (opn_new v2 #[.bool false, .int .i64 0, .string ⟨#[]⟩, .bool false, .string ⟨#[]⟩, .int .i64 0] 39)
     have tB_v3 : Hid (OfT (v2.alloc (.cells #[.bool false, .int .i64 0, .string ⟨#[]⟩, .bool false, .string ⟨#[]⟩, .int .i64 0] 39)) v2.heap.size 39) := hidI (ofT_new v2 #[.bool false, .int .i64 0, .string ⟨#[]⟩, .bool false, .string ⟨#[]⟩, .int .i64 0] 39)
     have hBl_v3 : v2.heap.size < (v2.alloc (.cells #[.bool false, .int .i64 0, .string ⟨#[]⟩, .bool false, .string ⟨#[]⟩, .int .i64 0] 39)).heap.size := by simp
     have hdv3 : Below v2.heap.size v2 (v2.alloc (.cells #[.bool false, .int .i64 0, .string ⟨#[]⟩, .bool false, .string ⟨#[]⟩, .int .i64 0] 39)) := (Below.refl _ _).alloc (Nat.le_refl _) _
     have SA_v3 := hidI (SA_v2.out.below hdv3)
     have FA_v3 := hidI (G.T.files_below FA_v2.out hdv3)
     have DA_v3 := hidI (G.deeds_below DA_v2.out hdv3)
     have OW_v3 := hidI (own_below OW_v2.out hdv3)
     clear SA_v2
     clear FA_v2
     clear DA_v2
     clear OW_v2
     have a0v3 := (kv3.cell (p := ⟨b12, 0, none⟩) hb12).trans z0
     have a1v3 := (kv3.cell (p := ⟨b12, 1, none⟩) hb12).trans z1
     have a2v3 := (kv3.cell (p := ⟨b12, 2, none⟩) hb12).trans z2
     have a3v3 := (kv3.cell (p := ⟨b13, 0, none⟩) hb13).trans z3
     have a4v3 := (kv3.cell (p := ⟨b6, 0, none⟩) hb6).trans z4
     have a5v3 := (kv3.cell (p := ⟨b6, 1, none⟩) hb6).trans z5
     have a6v3 := (kv3.cell (p := ⟨b6, 2, none⟩) hb6).trans z6
     have lv3 := kv3.size
     clear hHeld
     refine hK.out _ _ ⟨a0v3, a1v3, a2v3, a3v3, a4v3, a5v3, a6v3⟩ (fun hHeld => ?_)
     clear hK K
     try simp only [qq]
     generalize (v2.alloc (.cells #[.bool false, .int .i64 0, .string ⟨#[]⟩, .bool false, .string ⟨#[]⟩, .int .i64 0] 39)) = v3 at *
     refine rd (i := 10) (o := ⟨none, .store 39 (.tmp 15) (.tmp 67), 0, _, _, none⟩) rfl (by kernel_rfl) (fun K hK => ?_)
     refine step_store_blk rfl 39 (.tmp 15) (.tmp 67) rfl v2.heap.size 0 rfl [.bool A.ov, .int .i64 A.cd, .string A.tx, .bool false, .string A.nm, .int .i64 0] rfl (blk_some bB_v3.out rfl) oB_v3.out (by simp [Value.oneCell']) (by kernel_rfl) rfl ?_
     clear hHeld
     refine st_overT (old := [.bool false, .int .i64 0, .string ⟨#[]⟩, .bool false, .string ⟨#[]⟩, .int .i64 0]) (N := u.heap.size) rfl bB_v3.out oB_v3.out tB_v3.out (by omega) ?_
     intro E bE ZE OE TE hEs hE
     have kE : Below u.heap.size u E := kv3.trans bE
     have a0E := (kE.cell (p := ⟨b12, 0, none⟩) hb12).trans z0
     have a1E := (kE.cell (p := ⟨b12, 1, none⟩) hb12).trans z1
     have a2E := (kE.cell (p := ⟨b12, 2, none⟩) hb12).trans z2
     have a3E := (kE.cell (p := ⟨b13, 0, none⟩) hb13).trans z3
     have a4E := (kE.cell (p := ⟨b6, 0, none⟩) hb6).trans z4
     have a5E := (kE.cell (p := ⟨b6, 1, none⟩) hb6).trans z5
     have a6E := (kE.cell (p := ⟨b6, 2, none⟩) hb6).trans z6
     have lE := kE.size
     have RE : E.ownsRow u.heap.size 108 4 (.slice av A.ls.length cv) A.ls.length (lC A.ls) := own_keep' OW_v3.out (fun q hq => hE q (ofT_lt (own_ofT OW_v3.out hq)) (fun e => by
      have e2 := ofT_one (own_ofT OW_v3.out hq) (e ▸ tB_v3.out)
      exact absurd e2 (by decide)))
     refine hK.out _ _ ⟨a0E, a1E, a2E, a3E, a4E, a5E, a6E⟩ (fun hHeld => ?_)
     clear hK K
     try simp only [qq]
     refine tk (i := 11) (oi := ⟨some 16, .assign (.tmp 68), 40, _, _, none⟩) (v := ?_) (hQ := fun _ _ _ h => hQ _ _ _ _ _ h) rfl (by kernel_rfl) rfl ?e hHeld ?_
     case e => intro wq hSw; (try dsimp only at hSw); go_simp; try with_reducible rfl
     try simp only [qq]
     refine wpAnyH_done (by kernel_rfl) ?_ _
     clear hHeld
     exact hKK _ _ _ _ _ _ _ _ _ av cv v2.heap.size E kE (by omega) (by have := kE.size; have := bE.size; have := hBl_v3; omega) ZE TE RE
   · go_simp
     have kv4 : Below u.heap.size u (v1.alloc (.cells #[.bool false, .int .i64 0, .string ⟨#[]⟩, .bool false, .string ⟨#[]⟩, .int .i64 0] 39)) := (kv1.alloc lv1 _)
     have bB_v4 : Hid (BlkAt (v1.alloc (.cells #[.bool false, .int .i64 0, .string ⟨#[]⟩, .bool false, .string ⟨#[]⟩, .int .i64 0] 39)) v1.heap.size [.bool false, .int .i64 0, .string ⟨#[]⟩, .bool false, .string ⟨#[]⟩, .int .i64 0]) := hidI (blk_new v1 [.bool false, .int .i64 0, .string ⟨#[]⟩, .bool false, .string ⟨#[]⟩, .int .i64 0] 39)
     have oB_v4 : Hid (OpnAt (v1.alloc (.cells #[.bool false, .int .i64 0, .string ⟨#[]⟩, .bool false, .string ⟨#[]⟩, .int .i64 0] 39)) v1.heap.size) := hidI (opn_new v1 #[.bool false, .int .i64 0, .string ⟨#[]⟩, .bool false, .string ⟨#[]⟩, .int .i64 0] 39)
     have tB_v4 : Hid (OfT (v1.alloc (.cells #[.bool false, .int .i64 0, .string ⟨#[]⟩, .bool false, .string ⟨#[]⟩, .int .i64 0] 39)) v1.heap.size 39) := hidI (ofT_new v1 #[.bool false, .int .i64 0, .string ⟨#[]⟩, .bool false, .string ⟨#[]⟩, .int .i64 0] 39)
     have hBl_v4 : v1.heap.size < (v1.alloc (.cells #[.bool false, .int .i64 0, .string ⟨#[]⟩, .bool false, .string ⟨#[]⟩, .int .i64 0] 39)).heap.size := by simp
     have hdv4 : Below v1.heap.size v1 (v1.alloc (.cells #[.bool false, .int .i64 0, .string ⟨#[]⟩, .bool false, .string ⟨#[]⟩, .int .i64 0] 39)) := (Below.refl _ _).alloc (Nat.le_refl _) _
     have SA_v4 := hidI (SA_v1.out.below hdv4)
     have FA_v4 := hidI (G.T.files_below FA_v1.out hdv4)
     have DA_v4 := hidI (G.deeds_below DA_v1.out hdv4)
     clear SA_v1
     clear FA_v1
     clear DA_v1
     have a0v4 := (kv4.cell (p := ⟨b12, 0, none⟩) hb12).trans z0
     have a1v4 := (kv4.cell (p := ⟨b12, 1, none⟩) hb12).trans z1
     have a2v4 := (kv4.cell (p := ⟨b12, 2, none⟩) hb12).trans z2
     have a3v4 := (kv4.cell (p := ⟨b13, 0, none⟩) hb13).trans z3
     have a4v4 := (kv4.cell (p := ⟨b6, 0, none⟩) hb6).trans z4
     have a5v4 := (kv4.cell (p := ⟨b6, 1, none⟩) hb6).trans z5
     have a6v4 := (kv4.cell (p := ⟨b6, 2, none⟩) hb6).trans z6
     have lv4 := kv4.size
     clear hHeld
     refine hK.out _ _ ⟨a0v4, a1v4, a2v4, a3v4, a4v4, a5v4, a6v4⟩ (fun hHeld => ?_)
     clear hK K
     try simp only [qq]
     generalize (v1.alloc (.cells #[.bool false, .int .i64 0, .string ⟨#[]⟩, .bool false, .string ⟨#[]⟩, .int .i64 0] 39)) = v4 at *
     refine rd (i := 5) (o := ⟨some 66, .call ⟨.value (.func 13), #[.tmp 61, .tmp 62, .tmp 64, .tmp 65], #[45, 49, 51, 53]⟩, 41, _, _, none⟩) rfl (by kernel_rfl) (fun K hK => ?_)
     go_simp
     refine (hX tb rb g q _ kv4 SA_v4.out FA_v4.out DA_v4.out).mono ?_
     rintro e v5 ⟨⟨av, cv, rfl, how⟩, hcv5⟩
     go_wp2_with fail
     have kv5 : Below u.heap.size u v5 := kv4.trans (hcv5.mono lv4)
     have hdv5 : Below v4.heap.size v4 v5 := hcv5
     have SA_v5 := hidI (SA_v4.out.below hdv5)
     have FA_v5 := hidI (G.T.files_below FA_v4.out hdv5)
     have DA_v5 := hidI (G.deeds_below DA_v4.out hdv5)
     have bB_v5 := hidI (bB_v4.out.below hdv5 hBl_v4)
     have oB_v5 := hidI (oB_v4.out.below hdv5 hBl_v4)
     have tB_v5 := hidI (tB_v4.out.below hdv5 hBl_v4)
     have hBl_v5 := Nat.lt_of_lt_of_le hBl_v4 hdv5.size
     clear SA_v4
     clear FA_v4
     clear DA_v4
     clear bB_v4
     clear oB_v4
     clear tB_v4
     clear hBl_v4
     have OW_v5 : Hid (v5.ownsRow u.heap.size 108 4 (.slice av A.ls.length cv) A.ls.length (lC A.ls)) := hidI (own_low how (by first | exact lv4 | exact Nat.le_refl _))
     clear how
     have a0v5 := (kv5.cell (p := ⟨b12, 0, none⟩) hb12).trans z0
     have a1v5 := (kv5.cell (p := ⟨b12, 1, none⟩) hb12).trans z1
     have a2v5 := (kv5.cell (p := ⟨b12, 2, none⟩) hb12).trans z2
     have a3v5 := (kv5.cell (p := ⟨b13, 0, none⟩) hb13).trans z3
     have a4v5 := (kv5.cell (p := ⟨b6, 0, none⟩) hb6).trans z4
     have a5v5 := (kv5.cell (p := ⟨b6, 1, none⟩) hb6).trans z5
     have a6v5 := (kv5.cell (p := ⟨b6, 2, none⟩) hb6).trans z6
     have lv5 := kv5.size
     clear hHeld
     refine hK.out _ _ ⟨a0v5, a1v5, a2v5, a3v5, a4v5, a5v5, a6v5⟩ (fun hHeld => ?_)
     clear hK K
     try simp only [qq]
     refine tk (i := 6) (oi := ⟨some 60, .move (.tmp 66), 41, _, _, none⟩) (v := ?_) (hQ := fun _ _ _ h => hQ _ _ _ _ _ h) rfl (by kernel_rfl) rfl ?e hHeld ?_
     case e => intro wq hSw; (try dsimp only at hSw); go_simp; try with_reducible rfl
     try simp only [qq]
     refine tk (i := 7) (oi := ⟨some 67, .extract (.tmp 60) 0, 39, _, _, none⟩) (v := ?_) (hQ := fun _ _ _ h => hQ _ _ _ _ _ h) rfl (by kernel_rfl) rfl ?e hHeld ?_
     case e => intro wq hSw; (try dsimp only at hSw); go_simp; try with_reducible rfl
     try simp only [qq]
     refine tk (i := 8) (oi := ⟨some 68, .extract (.tmp 60) 1, 40, _, _, none⟩) (v := ?_) (hQ := fun _ _ _ h => hQ _ _ _ _ _ h) rfl (by kernel_rfl) rfl ?e hHeld ?_
     case e => intro wq hSw; (try dsimp only at hSw); go_simp; try with_reducible rfl
     try simp only [qq]
     refine rd (i := 10) (o := ⟨none, .store 39 (.tmp 15) (.tmp 67), 0, _, _, none⟩) rfl (by kernel_rfl) (fun K hK => ?_)
     refine step_store_blk rfl 39 (.tmp 15) (.tmp 67) rfl v1.heap.size 0 rfl [.bool A.ov, .int .i64 A.cd, .string A.tx, .bool false, .string A.nm, .int .i64 0] rfl (blk_some bB_v5.out rfl) oB_v5.out (by simp [Value.oneCell']) (by kernel_rfl) rfl ?_
     clear hHeld
     refine st_overT (old := [.bool false, .int .i64 0, .string ⟨#[]⟩, .bool false, .string ⟨#[]⟩, .int .i64 0]) (N := u.heap.size) rfl bB_v5.out oB_v5.out tB_v5.out (by omega) ?_
     intro E bE ZE OE TE hEs hE
     have kE : Below u.heap.size u E := kv5.trans bE
     have a0E := (kE.cell (p := ⟨b12, 0, none⟩) hb12).trans z0
     have a1E := (kE.cell (p := ⟨b12, 1, none⟩) hb12).trans z1
     have a2E := (kE.cell (p := ⟨b12, 2, none⟩) hb12).trans z2
     have a3E := (kE.cell (p := ⟨b13, 0, none⟩) hb13).trans z3
     have a4E := (kE.cell (p := ⟨b6, 0, none⟩) hb6).trans z4
     have a5E := (kE.cell (p := ⟨b6, 1, none⟩) hb6).trans z5
     have a6E := (kE.cell (p := ⟨b6, 2, none⟩) hb6).trans z6
     have lE := kE.size
     have RE : E.ownsRow u.heap.size 108 4 (.slice av A.ls.length cv) A.ls.length (lC A.ls) := own_keep' OW_v5.out (fun q hq => hE q (ofT_lt (own_ofT OW_v5.out hq)) (fun e => by
      have e2 := ofT_one (own_ofT OW_v5.out hq) (e ▸ tB_v5.out)
      exact absurd e2 (by decide)))
     refine hK.out _ _ ⟨a0E, a1E, a2E, a3E, a4E, a5E, a6E⟩ (fun hHeld => ?_)
     clear hK K
     try simp only [qq]
     refine tk (i := 11) (oi := ⟨some 16, .assign (.tmp 68), 40, _, _, none⟩) (v := ?_) (hQ := fun _ _ _ h => hQ _ _ _ _ _ h) rfl (by kernel_rfl) rfl ?e hHeld ?_
     case e => intro wq hSw; (try dsimp only at hSw); go_simp; try with_reducible rfl
     try simp only [qq]
     refine wpAnyH_done (by kernel_rfl) ?_ _
     clear hHeld
     exact hKK _ _ _ _ _ _ _ _ _ av cv v1.heap.size E kE (by omega) (by have := kE.size; have := bE.size; have := hBl_v5; omega) ZE TE RE
 · go_simp
   have kv6 : Below u.heap.size u ((u.alloc (.cells #[.bool false, .int .i64 0, .string ⟨#[]⟩, .bool false, .string ⟨#[]⟩, .int .i64 0] 39)).drew) := (ku.alloc lu _).drew
   have bB_v6 : Hid (BlkAt ((u.alloc (.cells #[.bool false, .int .i64 0, .string ⟨#[]⟩, .bool false, .string ⟨#[]⟩, .int .i64 0] 39)).drew) u.heap.size [.bool false, .int .i64 0, .string ⟨#[]⟩, .bool false, .string ⟨#[]⟩, .int .i64 0]) := hidI (blk_new u [.bool false, .int .i64 0, .string ⟨#[]⟩, .bool false, .string ⟨#[]⟩, .int .i64 0] 39)
   have oB_v6 : Hid (OpnAt ((u.alloc (.cells #[.bool false, .int .i64 0, .string ⟨#[]⟩, .bool false, .string ⟨#[]⟩, .int .i64 0] 39)).drew) u.heap.size) := hidI (opn_new u #[.bool false, .int .i64 0, .string ⟨#[]⟩, .bool false, .string ⟨#[]⟩, .int .i64 0] 39)
   have tB_v6 : Hid (OfT ((u.alloc (.cells #[.bool false, .int .i64 0, .string ⟨#[]⟩, .bool false, .string ⟨#[]⟩, .int .i64 0] 39)).drew) u.heap.size 39) := hidI (ofT_new u #[.bool false, .int .i64 0, .string ⟨#[]⟩, .bool false, .string ⟨#[]⟩, .int .i64 0] 39)
   have hBl_v6 : u.heap.size < ((u.alloc (.cells #[.bool false, .int .i64 0, .string ⟨#[]⟩, .bool false, .string ⟨#[]⟩, .int .i64 0] 39)).drew).heap.size := by simp
   have hdv6 : Below u.heap.size u ((u.alloc (.cells #[.bool false, .int .i64 0, .string ⟨#[]⟩, .bool false, .string ⟨#[]⟩, .int .i64 0] 39)).drew) := ((Below.refl _ _).alloc (Nat.le_refl _) _).drew
   have SA_v6 := hidI (SA0.out.below hdv6)
   have FA_v6 := hidI (G.T.files_below FA0.out hdv6)
   have DA_v6 := hidI (G.deeds_below DA0.out hdv6)
   have a0v6 := (kv6.cell (p := ⟨b12, 0, none⟩) hb12).trans z0
   have a1v6 := (kv6.cell (p := ⟨b12, 1, none⟩) hb12).trans z1
   have a2v6 := (kv6.cell (p := ⟨b12, 2, none⟩) hb12).trans z2
   have a3v6 := (kv6.cell (p := ⟨b13, 0, none⟩) hb13).trans z3
   have a4v6 := (kv6.cell (p := ⟨b6, 0, none⟩) hb6).trans z4
   have a5v6 := (kv6.cell (p := ⟨b6, 1, none⟩) hb6).trans z5
   have a6v6 := (kv6.cell (p := ⟨b6, 2, none⟩) hb6).trans z6
   have lv6 := kv6.size
   clear hHeld
   refine hK.out _ _ ⟨a0v6, a1v6, a2v6, a3v6, a4v6, a5v6, a6v6⟩ (fun hHeld => ?_)
   clear hK K
   try simp only [qq]
   generalize ((u.alloc (.cells #[.bool false, .int .i64 0, .string ⟨#[]⟩, .bool false, .string ⟨#[]⟩, .int .i64 0] 39)).drew) = v6 at *
   refine rd (i := 3) (o := ⟨some 64, .call ⟨.value (.func 11), #[.tmp 63], #[30]⟩, 51, _, _, none⟩) rfl (by kernel_rfl) (fun K hK => ?_)
   go_simp
   refine (c11 m _).mono ?_
   rintro e v7 ⟨rfl, hcv7⟩
   go_wp2_with fail
   have kv7 : Below u.heap.size u v7 := kv6.trans (hcv7.mono lv6)
   have hdv7 : Below v6.heap.size v6 v7 := hcv7
   have SA_v7 := hidI (SA_v6.out.below hdv7)
   have FA_v7 := hidI (G.T.files_below FA_v6.out hdv7)
   have DA_v7 := hidI (G.deeds_below DA_v6.out hdv7)
   have bB_v7 := hidI (bB_v6.out.below hdv7 hBl_v6)
   have oB_v7 := hidI (oB_v6.out.below hdv7 hBl_v6)
   have tB_v7 := hidI (tB_v6.out.below hdv7 hBl_v6)
   have hBl_v7 := Nat.lt_of_lt_of_le hBl_v6 hdv7.size
   clear SA_v6
   clear FA_v6
   clear DA_v6
   clear bB_v6
   clear oB_v6
   clear tB_v6
   clear hBl_v6
   have a0v7 := (kv7.cell (p := ⟨b12, 0, none⟩) hb12).trans z0
   have a1v7 := (kv7.cell (p := ⟨b12, 1, none⟩) hb12).trans z1
   have a2v7 := (kv7.cell (p := ⟨b12, 2, none⟩) hb12).trans z2
   have a3v7 := (kv7.cell (p := ⟨b13, 0, none⟩) hb13).trans z3
   have a4v7 := (kv7.cell (p := ⟨b6, 0, none⟩) hb6).trans z4
   have a5v7 := (kv7.cell (p := ⟨b6, 1, none⟩) hb6).trans z5
   have a6v7 := (kv7.cell (p := ⟨b6, 2, none⟩) hb6).trans z6
   have lv7 := kv7.size
   clear hHeld
   refine hK.out _ _ ⟨a0v7, a1v7, a2v7, a3v7, a4v7, a5v7, a6v7⟩ (fun hHeld => ?_)
   clear hK K
   try simp only [qq]
   refine rd (i := 5) (o := ⟨some 66, .call ⟨.value (.func 13), #[.tmp 61, .tmp 62, .tmp 64, .tmp 65], #[45, 49, 51, 53]⟩, 41, _, _, none⟩) rfl (by kernel_rfl) (fun K hK => ?_)
   go_simp
   refine (hX tb rb g q _ kv7 SA_v7.out FA_v7.out DA_v7.out).mono ?_
   rintro e v8 ⟨⟨av, cv, rfl, how⟩, hcv8⟩
   go_wp2_with fail
   have kv8 : Below u.heap.size u v8 := kv7.trans (hcv8.mono lv7)
   have hdv8 : Below v7.heap.size v7 v8 := hcv8
   have SA_v8 := hidI (SA_v7.out.below hdv8)
   have FA_v8 := hidI (G.T.files_below FA_v7.out hdv8)
   have DA_v8 := hidI (G.deeds_below DA_v7.out hdv8)
   have bB_v8 := hidI (bB_v7.out.below hdv8 hBl_v7)
   have oB_v8 := hidI (oB_v7.out.below hdv8 hBl_v7)
   have tB_v8 := hidI (tB_v7.out.below hdv8 hBl_v7)
   have hBl_v8 := Nat.lt_of_lt_of_le hBl_v7 hdv8.size
   clear SA_v7
   clear FA_v7
   clear DA_v7
   clear bB_v7
   clear oB_v7
   clear tB_v7
   clear hBl_v7
   have OW_v8 : Hid (v8.ownsRow u.heap.size 108 4 (.slice av A.ls.length cv) A.ls.length (lC A.ls)) := hidI (own_low how (by first | exact lv7 | exact Nat.le_refl _))
   clear how
   have a0v8 := (kv8.cell (p := ⟨b12, 0, none⟩) hb12).trans z0
   have a1v8 := (kv8.cell (p := ⟨b12, 1, none⟩) hb12).trans z1
   have a2v8 := (kv8.cell (p := ⟨b12, 2, none⟩) hb12).trans z2
   have a3v8 := (kv8.cell (p := ⟨b13, 0, none⟩) hb13).trans z3
   have a4v8 := (kv8.cell (p := ⟨b6, 0, none⟩) hb6).trans z4
   have a5v8 := (kv8.cell (p := ⟨b6, 1, none⟩) hb6).trans z5
   have a6v8 := (kv8.cell (p := ⟨b6, 2, none⟩) hb6).trans z6
   have lv8 := kv8.size
   clear hHeld
   refine hK.out _ _ ⟨a0v8, a1v8, a2v8, a3v8, a4v8, a5v8, a6v8⟩ (fun hHeld => ?_)
   clear hK K
   try simp only [qq]
   refine tk (i := 6) (oi := ⟨some 60, .move (.tmp 66), 41, _, _, none⟩) (v := ?_) (hQ := fun _ _ _ h => hQ _ _ _ _ _ h) rfl (by kernel_rfl) rfl ?e hHeld ?_
   case e => intro wq hSw; (try dsimp only at hSw); go_simp; try with_reducible rfl
   try simp only [qq]
   refine tk (i := 7) (oi := ⟨some 67, .extract (.tmp 60) 0, 39, _, _, none⟩) (v := ?_) (hQ := fun _ _ _ h => hQ _ _ _ _ _ h) rfl (by kernel_rfl) rfl ?e hHeld ?_
   case e => intro wq hSw; (try dsimp only at hSw); go_simp; try with_reducible rfl
   try simp only [qq]
   refine tk (i := 8) (oi := ⟨some 68, .extract (.tmp 60) 1, 40, _, _, none⟩) (v := ?_) (hQ := fun _ _ _ h => hQ _ _ _ _ _ h) rfl (by kernel_rfl) rfl ?e hHeld ?_
   case e => intro wq hSw; (try dsimp only at hSw); go_simp; try with_reducible rfl
   try simp only [qq]
   refine rd (i := 10) (o := ⟨none, .store 39 (.tmp 15) (.tmp 67), 0, _, _, none⟩) rfl (by kernel_rfl) (fun K hK => ?_)
   refine step_store_blk rfl 39 (.tmp 15) (.tmp 67) rfl u.heap.size 0 rfl [.bool A.ov, .int .i64 A.cd, .string A.tx, .bool false, .string A.nm, .int .i64 0] rfl (blk_some bB_v8.out rfl) oB_v8.out (by simp [Value.oneCell']) (by kernel_rfl) rfl ?_
   clear hHeld
   refine st_overT (old := [.bool false, .int .i64 0, .string ⟨#[]⟩, .bool false, .string ⟨#[]⟩, .int .i64 0]) (N := u.heap.size) rfl bB_v8.out oB_v8.out tB_v8.out (by omega) ?_
   intro E bE ZE OE TE hEs hE
   have kE : Below u.heap.size u E := kv8.trans bE
   have a0E := (kE.cell (p := ⟨b12, 0, none⟩) hb12).trans z0
   have a1E := (kE.cell (p := ⟨b12, 1, none⟩) hb12).trans z1
   have a2E := (kE.cell (p := ⟨b12, 2, none⟩) hb12).trans z2
   have a3E := (kE.cell (p := ⟨b13, 0, none⟩) hb13).trans z3
   have a4E := (kE.cell (p := ⟨b6, 0, none⟩) hb6).trans z4
   have a5E := (kE.cell (p := ⟨b6, 1, none⟩) hb6).trans z5
   have a6E := (kE.cell (p := ⟨b6, 2, none⟩) hb6).trans z6
   have lE := kE.size
   have RE : E.ownsRow u.heap.size 108 4 (.slice av A.ls.length cv) A.ls.length (lC A.ls) := own_keep' OW_v8.out (fun q hq => hE q (ofT_lt (own_ofT OW_v8.out hq)) (fun e => by
    have e2 := ofT_one (own_ofT OW_v8.out hq) (e ▸ tB_v8.out)
    exact absurd e2 (by decide)))
   refine hK.out _ _ ⟨a0E, a1E, a2E, a3E, a4E, a5E, a6E⟩ (fun hHeld => ?_)
   clear hK K
   try simp only [qq]
   refine tk (i := 11) (oi := ⟨some 16, .assign (.tmp 68), 40, _, _, none⟩) (v := ?_) (hQ := fun _ _ _ h => hQ _ _ _ _ _ h) rfl (by kernel_rfl) rfl ?e hHeld ?_
   case e => intro wq hSw; (try dsimp only at hSw); go_simp; try with_reducible rfl
   try simp only [qq]
   refine wpAnyH_done (by kernel_rfl) ?_ _
   clear hHeld
   exact hKK _ _ _ _ _ _ _ _ _ av cv u.heap.size E kE (by omega) (by have := kE.size; have := bE.size; have := hBl_v8; omega) ZE TE RE
end Go.Proofs.YtboojefodbjbcaaGreatDoor
