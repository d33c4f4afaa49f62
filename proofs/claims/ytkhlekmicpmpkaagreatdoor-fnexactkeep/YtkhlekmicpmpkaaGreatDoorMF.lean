import Derived.Test.YtkhlekmicpmpkaaGreatDoorME
namespace Go.Proofs.YtkhlekmicpmpkaaGreatDoor
open Go.RowKit Go.Maps
set_option maxRecDepth 100000
set_option linter.unusedVariables false
set_option linter.unusedSimpArgs false
theorem c26n (c : Int) (s fm : ByteArray) (w : World) (hf : fmR c s = fm) (hs : s.size ≤ 1048700) : Calls Tryz.prog 26 #[.agg #[.int .i64 c, .string s]] w fun e w' => e = .returned (.string fm) ∧ Below w.heap.size w w' := by
 rw [← hf]
 exact c26 c s w hs
theorem lc_put {V E E' : World} {N A g c g' c' : Nat} {W0 : Int} {T T' : List ByteArray} {P : List R3} {a2 : Option Addr} {c2 : Nat} {vs : List Value} (h : LC V N A W0 T g c P a2 c2 vs E) (ho : E.ownsRow N 9 1 (.slice (some ⟨g', 0, none⟩) T'.length c') T'.length (T'.map Value.string)) (hE : ∀ k, k ≠ A → E'.heap[k]? = E.heap[k]?) (hb : BlkAt E' A [.int .i64 W0, .slice (some ⟨g', 0, none⟩) T'.length c', .slice a2 P.length c2]) (hop : OpnAt E' A) (ht : OfT E' A 37) (hB : Below N V E') : LC V N A W0 T' g' c' P a2 c2 vs E' := by
 refine ⟨hb, h.rc.keep (fun q t hT ht2 _ => hE q (fun e => ?_)), own_keep' ho (fun q hq => hE q (fun e => ?_)), hop, ht, h.na, hB⟩
 · have e2 := ofT_one hT (e ▸ h.t1)
   rcases ht2 with rfl | rfl <;> exact absurd e2 (by decide)
 · exact absurd (ofT_one (own_ofT ho hq) (e ▸ h.t1)) (by decide)
theorem insT_len' (W : Int) (t : ByteArray) (ts : List ByteArray) : (insT W t ts).length = ts.length + 1 := by
 induction ts with
 | nil => rfl
 | cons y r ih =>
  unfold insT
  split
  · rfl
  · rw [List.length_cons, ih, List.length_cons]
theorem insT_mem {W : Int} {t x : ByteArray} {ts : List ByteArray} (h : x ∈ insT W t ts) : x = t ∨ x ∈ ts := by
 induction ts with
 | nil => exact .inl (List.mem_singleton.1 h)
 | cons y r ih =>
  unfold insT at h
  split at h
  · rcases List.mem_cons.1 h with h | h
    · exact .inl h
    · exact .inr h
  · rcases List.mem_cons.1 h with h | h
    · exact .inr (h ▸ List.mem_cons_self)
    · exact (ih h).imp id (List.mem_cons_of_mem _)
theorem putT_len' (W : Int) (t : ByteArray) (ts : List ByteArray) : (putT W t ts).1.length ≤ ts.length + 1 := by
 unfold putT
 split
 · exact Nat.le_succ _
 · exact Nat.le_of_eq (insT_len' W t ts)
theorem putT_mem {W : Int} {t x : ByteArray} {ts : List ByteArray} (h : x ∈ (putT W t ts).1) : x = t ∨ x ∈ ts := by
 unfold putT at h
 split at h
 · exact .inr h
 · exact insT_mem h
theorem putAll_len' (W : Int) (a : List ByteArray) : ∀ s : List ByteArray × Bool, (putAll W a s).1.length ≤ s.1.length + a.length := by
 induction a with
 | nil => exact fun s => Nat.le_refl _
 | cons t r ih =>
  intro s
  have h1 := ih ((putT W t s.1).1, s.2 && (putT W t s.1).2)
  have h2 := putT_len' W t s.1
  show (putAll W r _).1.length ≤ _
  rw [List.length_cons]
  simp only [] at h1
  omega
theorem putAll_mem {W : Int} {x : ByteArray} (a : List ByteArray) : ∀ s : List ByteArray × Bool, x ∈ (putAll W a s).1 → x ∈ a ∨ x ∈ s.1 := by
 induction a with
 | nil => exact fun s h => .inr h
 | cons t r ih =>
  intro s h
  rcases ih ((putT W t s.1).1, s.2 && (putT W t s.1).2) h with h | h
  · exact .inl (List.mem_cons_of_mem _ h)
  · rcases putT_mem h with h | h
    · exact .inl (h ▸ List.mem_cons_self)
    · exact .inr h
theorem putAll_snoc (W : Int) (a : List ByteArray) (t : ByteArray) (s : List ByteArray × Bool) : putAll W (a ++ [t]) s = ((putT W t (putAll W a s).1).1, (putAll W a s).2 && (putT W t (putAll W a s).1).2) := by
 rw [putAll_app]
 rfl
theorem askR_len' (ls : List L4) : (askR ls).length ≤ ls.length := by
 induction ls with
 | nil => exact Nat.le_refl _
 | cons x r ih =>
  unfold askR
  split
  · exact Nat.le_succ_of_le ih
  · exact Nat.succ_le_succ ih
def fmK (ls : List L4) (k : Nat) : List ByteArray := (askR (ls.take k)).map fun r => fmR r.1 r.2
theorem fmK_next {ls : List L4} {k : Nat} (hk : k < ls.length) : fmK ls (k + 1) = fmK ls k ++ (if (ls.getD k l4z).has then [] else [fmR (ls.getD k l4z).cd (ls.getD k l4z).tx]) := by
 have e : ls.take (k + 1) = ls.take k ++ [ls.getD k l4z] := by
  rw [List.take_succ_eq_append_getElem hk]
  simp only [List.getD, List.getElem?_eq_getElem hk, Option.getD_some]
 unfold fmK
 rw [e, askR_snoc, List.map_append]
 split <;> rfl
theorem fmK_len (ls : List L4) (k : Nat) : (fmK ls k).length ≤ ls.length := by
 unfold fmK
 rw [List.length_map]
 have := askR_len' (ls.take k)
 have := List.length_take_le' k ls
 omega
theorem fmL_K (ls : List L4) (c : Int) (t : ByteArray) : fmL ls c t = fmK ls ls.length ++ [fmR c t] := by
 unfold fmL fmK
 rw [List.take_length, List.map_append]
 rfl
set_option maxHeartbeats 8000000 in
theorem r11 {K : Act → World → Prop} {Q : Exit → Act → World → Prop} {d0 d1 d3 d4 d5 d6 d7 d8 d9 d11 d13 d14 d15 d16 d17 d18 d19 d20 d21 d22 d23 d24 d25 d26 d27 d28 d29 d30 d31 d32 d33 d34 d35 d36 d37 d38 d39 d40 d41 d42 d43 d44 d45 d46 d47 d48 d49 d50 d51 d52 d53 d54 d55 d56 d57 d58 d59 d60 d61 d62 d63 d64 d65 d66 d67 d68 d69 d70 d71 d72 d73 d74 d75 d76 d77 d78 d79 d80 d81 d82 d83 d84 d85 d86 d87 d88 d89 d90 d91 d92 d93 d94 d95 d96 d97 d98 d99 d100 d101 d102 d103 d104 d105 d106 d107 d108 d109 d110 d111 d112 d113 d114 d115 d116 d117 : Value} {N A lb g c : Nat} {W cd : Int} {tx fm : ByteArray} {T T' : List ByteArray} {b' : Bool} {P : List R3} {a2 : Option Addr} {c2 : Nat} {u : World} {k lq ln lc : Nat} (BA : BlkAt u A [.int .i64 W, .slice (some ⟨g, 0, none⟩) T.length c, .slice a2 P.length c2]) (hAu : A < u.heap.size) (hlu : lb < u.heap.size) (z3 : u.cell? ⟨lb, lq + k * 4 + 2, none⟩ = some (.int .i64 cd)) (z4 : u.cell? ⟨lb, lq + k * 4 + 3, none⟩ = some (.string tx)) (hf : fmR cd tx = fm) (htx : tx.size ≤ 1048700) (hfm : fm.size ≤ 1048700) (hA : AscT W T) (hl : T.length ≤ 1000000) (hs : ∀ i, (T.getD i ByteArray.empty).size ≤ 1048700) (hp : putT W fm T = (T', b')) (ho : u.ownsRow N 9 1 (.slice (some ⟨g, 0, none⟩) T.length c) T.length (T.map Value.string)) (hN : N ≤ u.heap.size) (hkl : k < ln)
 (hQ : ∀ (d : Nat) v c (a : Act) w, Q (.panic c) (a.put (some d) v) w → Q (.panic c) a w) (hKK : ∀ (y44 y45 y46 y47 y48 y49 y50 y51 y52 y53 y54 : Value) (g' c' B : Nat) (E : World), Below u.heap.size u E → u.heap.size ≤ B → B < E.heap.size → BlkAt E B [.int .i64 W, .slice (some ⟨g', 0, none⟩) T'.length c', .slice a2 P.length c2] → E.ownsRow N 9 1 (.slice (some ⟨g', 0, none⟩) T'.length c') T'.length (T'.map Value.string) → K { tmps := #[d0, d1, .slice (some ⟨lb, lq, none⟩) ln lc, d3, d4, d5, d6, d7, d8, d9, .pointer (some ⟨A, 0, none⟩), d11, .int .i64 k, .pointer (some ⟨B, 0, none⟩), .bool b', d15, d16, d17, d18, d19, d20, d21, d22, d23, d24, d25, d26, d27, d28, d29, d30, d31, d32, d33, d34, d35, d36, d37, d38, d39, d40, d41, d42, d43, y44, y45, y46, y47, y48, y49, y50, y51, y52, y53, y54, d55, d56, d57, d58, d59, d60, d61, d62, d63, d64, d65, d66, d67, d68, d69, d70, d71, d72, d73, d74, d75, d76, d77, d78, d79, d80, d81, d82, d83, d84, d85, d86, d87, d88, d89, d90, d91, d92, d93, d94, d95, d96, d97, d98, d99, d100, d101, d102, d103, d104, d105, d106, d107, d108, d109, d110, d111, d112, d113, d114, d115, d116, d117], defers := [] } E) :
 Code.wp Tryz.prog (Code.region 11 #[⟨some 45, .load 37 (.tmp 10), 37, "l5_store.go:182", #[], none⟩, ⟨some 46, .move (.tmp 2), 43, "l5_store.go:182", #[], none⟩, ⟨some 47, .move (.tmp 12), 3, "l5_store.go:182", #[], none⟩, ⟨some 48, .indexAddr 43 (.tmp 46) (.tmp 47), 0, "l5_store.go:182", #[⟨1, .data⟩, ⟨2, .data⟩], none⟩, ⟨some 49, .fieldAddr 61 (.tmp 48) 2, 0, "l5_store.go:182", #[⟨3, .data⟩], none⟩, ⟨some 50, .load 45 (.tmp 49), 45, "l5_store.go:182", #[⟨4, .data⟩], none⟩, ⟨some 51, .call ⟨.value (.func 26), #[.tmp 50], #[45]⟩, 9, "l5_store.go:182", #[⟨5, .data⟩], none⟩, ⟨some 52, .call ⟨.value (.func 25), #[.tmp 45, .tmp 51], #[37, 9]⟩, 62, "l5_store.go:182", #[⟨0, .data⟩, ⟨6, .data⟩, ⟨6, .chain⟩], none⟩, ⟨some 44, .move (.tmp 52), 62, "l5_store.go:182", #[⟨7, .data⟩], none⟩, ⟨some 53, .extract (.tmp 44) 0, 37, "l5_store.go:182", #[⟨8, .data⟩], none⟩, ⟨some 54, .extract (.tmp 44) 1, 4, "l5_store.go:182", #[⟨8, .data⟩, ⟨12, .gcOnly .lateStores⟩], none⟩, ⟨some 13, .alloc 37, 0, "l5_store.go:182", #[], none⟩, ⟨none, .store 37 (.tmp 13) (.tmp 53), 0, "l5_store.go:182", #[⟨11, .data⟩, ⟨9, .data⟩, ⟨7, .chain⟩, ⟨0, .phase⟩, ⟨1, .phase⟩, ⟨2, .phase⟩, ⟨3, .phase⟩, ⟨4, .phase⟩, ⟨5, .phase⟩, ⟨6, .phase⟩, ⟨7, .phase⟩, ⟨8, .phase⟩, ⟨9, .phase⟩, ⟨10, .textOnly .lateStores⟩, ⟨11, .phase⟩], none⟩, ⟨some 14, .assign (.tmp 54), 4, "l5_store.go:182", #[⟨10, .data⟩, ⟨12, .chain⟩, ⟨0, .phase⟩, ⟨1, .phase⟩, ⟨2, .phase⟩, ⟨3, .phase⟩, ⟨4, .phase⟩, ⟨5, .phase⟩, ⟨6, .phase⟩, ⟨7, .phase⟩, ⟨8, .phase⟩, ⟨9, .phase⟩, ⟨10, .phase⟩, ⟨11, .phase⟩, ⟨12, .phase⟩], none⟩] true) (Exit.then K Q) { tmps := #[d0, d1, .slice (some ⟨lb, lq, none⟩) ln lc, d3, d4, d5, d6, d7, d8, d9, .pointer (some ⟨A, 0, none⟩), d11, .int .i64 k, d13, d14, d15, d16, d17, d18, d19, d20, d21, d22, d23, d24, d25, d26, d27, d28, d29, d30, d31, d32, d33, d34, d35, d36, d37, d38, d39, d40, d41, d42, d43, d44, d45, d46, d47, d48, d49, d50, d51, d52, d53, d54, d55, d56, d57, d58, d59, d60, d61, d62, d63, d64, d65, d66, d67, d68, d69, d70, d71, d72, d73, d74, d75, d76, d77, d78, d79, d80, d81, d82, d83, d84, d85, d86, d87, d88, d89, d90, d91, d92, d93, d94, d95, d96, d97, d98, d99, d100, d101, d102, d103, d104, d105, d106, d107, d108, d109, d110, d111, d112, d113, d114, d115, d116, d117], defers := [] } u := by
 have z0 := BA 0 _ rfl
 have z1 := BA 1 _ rfl
 have z2 := BA 2 _ rfl
 have HF := hidI hf
 have ku : Below u.heap.size u u := Below.refl _ _
 have lu : u.heap.size ≤ u.heap.size := Nat.le_refl _
 have h25 : ∀ v, Below u.heap.size u v → Calls Tryz.prog 25 #[.agg #[.int .i64 W, .slice (some ⟨g, 0, none⟩) T.length c, .slice a2 P.length c2], .string fm] v fun e w' => (∃ g' c', e = .returned (.tuple #[.agg #[.int .i64 W, .slice (some ⟨g', 0, none⟩) T'.length c', .slice a2 P.length c2], .bool b']) ∧ w'.ownsRow N 9 1 (.slice (some ⟨g', 0, none⟩) T'.length c') T'.length (T'.map Value.string)) ∧ Below v.heap.size v w' := fun v hv => by
  have h := c25 W T fm N g c P.length c2 a2 v hA hl hs hfm (own_below ho hv) (Nat.le_trans hN hv.size)
  rw [hp] at h
  exact h
 clear hf hp hA hs ho
 refine wp_region_held_drew (S := (fun u => u.cell? ⟨A, 0, none⟩ = some (.int .i64 W) ∧ u.cell? ⟨A, 1, none⟩ = some (.slice (some ⟨g, 0, none⟩) T.length c) ∧ u.cell? ⟨A, 2, none⟩ = some (.slice a2 P.length c2) ∧ u.cell? ⟨lb, lq + k * 4 + 2, none⟩ = some (.int .i64 cd) ∧ u.cell? ⟨lb, lq + k * 4 + 3, none⟩ = some (.string tx))) (by kernel_rfl) ?_ (fun hHeld => ?_)
 · exact ⟨z0, z1, z2, z3, z4⟩
 refine wpAnyH_take (i := 0) (oi := ⟨some 45, .load 37 (.tmp 10), 37, "l5_store.go:182", #[], none⟩) (v := ?_) rfl (by kernel_rfl) (by kernel_rfl) (by kernel_rfl) (fun _ _ _ h => hQ _ _ _ _ _ h) (Or.inl ⟨by rfl, ?_⟩) (by assumption) ?_
 rotate_left
 · intro wq hSw
   (try dsimp only at hSw)
   go_simp
   try with_reducible rfl
 try simp only [Act.put, qA, qB, qC]
 refine wpAnyH_take (i := 1) (oi := ⟨some 46, .move (.tmp 2), 43, "l5_store.go:182", #[], none⟩) (v := ?_) rfl (by kernel_rfl) (by kernel_rfl) (by kernel_rfl) (fun _ _ _ h => hQ _ _ _ _ _ h) (Or.inl ⟨by rfl, ?_⟩) (by assumption) ?_
 rotate_left
 · intro wq hSw
   (try dsimp only at hSw)
   go_simp
   try with_reducible rfl
 try simp only [Act.put, qA, qB, qC]
 refine wpAnyH_take (i := 2) (oi := ⟨some 47, .move (.tmp 12), 3, "l5_store.go:182", #[], none⟩) (v := ?_) rfl (by kernel_rfl) (by kernel_rfl) (by kernel_rfl) (fun _ _ _ h => hQ _ _ _ _ _ h) (Or.inl ⟨by rfl, ?_⟩) (by assumption) ?_
 rotate_left
 · intro wq hSw
   (try dsimp only at hSw)
   go_simp
   try with_reducible rfl
 try simp only [Act.put, qA, qB, qC]
 refine wpAnyH_take (i := 3) (oi := ⟨some 48, .indexAddr 43 (.tmp 46) (.tmp 47), 0, "l5_store.go:182", #[⟨1, .data⟩, ⟨2, .data⟩], none⟩) (v := ?_) rfl (by kernel_rfl) (by kernel_rfl) (by kernel_rfl) (fun _ _ _ h => hQ _ _ _ _ _ h) (Or.inl ⟨by rfl, ?_⟩) (by assumption) ?_
 rotate_left
 · intro wq hSw
   (try dsimp only at hSw)
   go_simp
   try with_reducible rfl
 try simp only [Act.put, qA, qB, qC]
 refine wpAnyH_take (i := 4) (oi := ⟨some 49, .fieldAddr 61 (.tmp 48) 2, 0, "l5_store.go:182", #[⟨3, .data⟩], none⟩) (v := ?_) rfl (by kernel_rfl) (by kernel_rfl) (by kernel_rfl) (fun _ _ _ h => hQ _ _ _ _ _ h) (Or.inl ⟨by rfl, ?_⟩) (by assumption) ?_
 rotate_left
 · intro wq hSw
   (try dsimp only at hSw)
   go_simp
   try with_reducible rfl
 try simp only [Act.put, qA, qB, qC]
 refine wpAnyH_take (i := 5) (oi := ⟨some 50, .load 45 (.tmp 49), 45, "l5_store.go:182", #[⟨4, .data⟩], none⟩) (v := ?_) rfl (by kernel_rfl) (by kernel_rfl) (by kernel_rfl) (fun _ _ _ h => hQ _ _ _ _ _ h) (Or.inl ⟨by rfl, ?_⟩) (by assumption) ?_
 rotate_left
 · intro wq hSw
   (try dsimp only at hSw)
   go_simp
   try with_reducible rfl
 try simp only [Act.put, qA, qB, qC]
 refine wpAnyH_ready (rs := [6, 11]) (by kernel_rfl) (by simp) ?_
 refine AllReadyH.cons (o := ⟨some 51, .call ⟨.value (.func 26), #[.tmp 50], #[45]⟩, 9, "l5_store.go:182", #[⟨5, .data⟩], none⟩) rfl (fun K hK => ?_) (AllReadyH.cons (o := ⟨some 13, .alloc 37, 0, "l5_store.go:182", #[], none⟩) rfl (fun K hK => ?_) AllReadyH.nil)
 · go_simp
   refine (c26n cd tx fm _ HF.out htx).mono ?_
   rintro e v1 ⟨rfl, hcv1⟩
   go_wp2_with fail
   have kv1 : Below u.heap.size u v1 := ku.drew.trans hcv1
   have szv1 : u.heap.size ≤ v1.heap.size := hcv1.size
   have a0v1 := (kv1.cell (p := ⟨A, 0, none⟩) hAu).trans z0
   have a1v1 := (kv1.cell (p := ⟨A, 1, none⟩) hAu).trans z1
   have a2v1 := (kv1.cell (p := ⟨A, 2, none⟩) hAu).trans z2
   have a3v1 := (kv1.cell (p := ⟨lb, lq + k * 4 + 2, none⟩) hlu).trans z3
   have a4v1 := (kv1.cell (p := ⟨lb, lq + k * 4 + 3, none⟩) hlu).trans z4
   have lv1 := kv1.size
   clear hHeld
   refine hK.out _ _ ⟨a0v1, a1v1, a2v1, a3v1, a4v1⟩ (fun hHeld => ?_)
   clear hK K
   try simp only [Act.put, qA, qB, qC]
   refine wpAnyH_ready (rs := [7, 11]) (by kernel_rfl) (by simp) ?_
   refine AllReadyH.cons (o := ⟨some 52, .call ⟨.value (.func 25), #[.tmp 45, .tmp 51], #[37, 9]⟩, 62, "l5_store.go:182", #[⟨0, .data⟩, ⟨6, .data⟩, ⟨6, .chain⟩], none⟩) rfl (fun K hK => ?_) (AllReadyH.cons (o := ⟨some 13, .alloc 37, 0, "l5_store.go:182", #[], none⟩) rfl (fun K hK => ?_) AllReadyH.nil)
   · go_simp
     refine (h25 v1 kv1).mono ?_
     rintro e v2 ⟨⟨g', c', rfl, hrv2⟩, hcv2⟩
     go_wp2_with fail
     have kv2 : Below u.heap.size u v2 := kv1.trans (hcv2.mono lv1)
     have Rv2 := hidI hrv2
     clear hrv2
     have szv2 : v1.heap.size ≤ v2.heap.size := hcv2.size
     have a0v2 := (kv2.cell (p := ⟨A, 0, none⟩) hAu).trans z0
     have a1v2 := (kv2.cell (p := ⟨A, 1, none⟩) hAu).trans z1
     have a2v2 := (kv2.cell (p := ⟨A, 2, none⟩) hAu).trans z2
     have a3v2 := (kv2.cell (p := ⟨lb, lq + k * 4 + 2, none⟩) hlu).trans z3
     have a4v2 := (kv2.cell (p := ⟨lb, lq + k * 4 + 3, none⟩) hlu).trans z4
     have lv2 := kv2.size
     clear hHeld
     refine hK.out _ _ ⟨a0v2, a1v2, a2v2, a3v2, a4v2⟩ (fun hHeld => ?_)
     clear hK K
     try simp only [Act.put, qA, qB, qC]
     refine wpAnyH_take (i := 8) (oi := ⟨some 44, .move (.tmp 52), 62, "l5_store.go:182", #[⟨7, .data⟩], none⟩) (v := ?_) rfl (by kernel_rfl) (by kernel_rfl) (by kernel_rfl) (fun _ _ _ h => hQ _ _ _ _ _ h) (Or.inl ⟨by rfl, ?_⟩) (by assumption) ?_
     rotate_left
     · intro wq hSw
       (try dsimp only at hSw)
       go_simp
       try with_reducible rfl
     try simp only [Act.put, qA, qB, qC]
     refine wpAnyH_take (i := 9) (oi := ⟨some 53, .extract (.tmp 44) 0, 37, "l5_store.go:182", #[⟨8, .data⟩], none⟩) (v := ?_) rfl (by kernel_rfl) (by kernel_rfl) (by kernel_rfl) (fun _ _ _ h => hQ _ _ _ _ _ h) (Or.inl ⟨by rfl, ?_⟩) (by assumption) ?_
     rotate_left
     · intro wq hSw
       (try dsimp only at hSw)
       go_simp
       try with_reducible rfl
     try simp only [Act.put, qA, qB, qC]
     refine wpAnyH_take (i := 10) (oi := ⟨some 54, .extract (.tmp 44) 1, 4, "l5_store.go:182", #[⟨8, .data⟩, ⟨12, .gcOnly .lateStores⟩], none⟩) (v := ?_) rfl (by kernel_rfl) (by kernel_rfl) (by kernel_rfl) (fun _ _ _ h => hQ _ _ _ _ _ h) (Or.inl ⟨by rfl, ?_⟩) (by assumption) ?_
     rotate_left
     · intro wq hSw
       (try dsimp only at hSw)
       go_simp
       try with_reducible rfl
     try simp only [Act.put, qA, qB, qC]
     refine wpAnyH_ready (rs := [11]) (by kernel_rfl) (by simp) ?_
     refine AllReadyH.cons (o := ⟨some 13, .alloc 37, 0, "l5_store.go:182", #[], none⟩) rfl (fun K hK => ?_) AllReadyH.nil
     go_simp
     have kv3 : Below u.heap.size u (v2.alloc (.cells #[.int .i64 0, .slice none 0 0, .slice none 0 0] 37)) := (kv2.alloc lv2 _)
     have bB : Hid (BlkAt (v2.alloc (.cells #[.int .i64 0, .slice none 0 0, .slice none 0 0] 37)) v2.heap.size [.int .i64 0, .slice none 0 0, .slice none 0 0]) := hidI (blk_new v2 [.int .i64 0, .slice none 0 0, .slice none 0 0] 37)
     have oB : Hid (OpnAt (v2.alloc (.cells #[.int .i64 0, .slice none 0 0, .slice none 0 0] 37)) v2.heap.size) := hidI (opn_new v2 #[.int .i64 0, .slice none 0 0, .slice none 0 0] 37)
     have tB : Hid (OfT (v2.alloc (.cells #[.int .i64 0, .slice none 0 0, .slice none 0 0] 37)) v2.heap.size 37) := hidI (ofT_new v2 #[.int .i64 0, .slice none 0 0, .slice none 0 0] 37)
     have hBl : v2.heap.size < (v2.alloc (.cells #[.int .i64 0, .slice none 0 0, .slice none 0 0] 37)).heap.size := by simp
     have kkv3 : Hid (Below v2.heap.size v2 (v2.alloc (.cells #[.int .i64 0, .slice none 0 0, .slice none 0 0] 37))) := hidI ((Below.refl _ _).alloc (Nat.le_refl _) _)
     have a0v3 := (kv3.cell (p := ⟨A, 0, none⟩) hAu).trans z0
     have a1v3 := (kv3.cell (p := ⟨A, 1, none⟩) hAu).trans z1
     have a2v3 := (kv3.cell (p := ⟨A, 2, none⟩) hAu).trans z2
     have a3v3 := (kv3.cell (p := ⟨lb, lq + k * 4 + 2, none⟩) hlu).trans z3
     have a4v3 := (kv3.cell (p := ⟨lb, lq + k * 4 + 3, none⟩) hlu).trans z4
     have lv3 := kv3.size
     clear hHeld
     refine hK.out _ _ ⟨a0v3, a1v3, a2v3, a3v3, a4v3⟩ (fun hHeld => ?_)
     clear hK K
     try simp only [Act.put, qA, qB, qC]
     generalize (v2.alloc (.cells #[.int .i64 0, .slice none 0 0, .slice none 0 0] 37)) = v3 at *
     have RR := hidI (own_below Rv2.out kkv3.out)
     have HNB : Hid (∀ q, (Value.slice (some ⟨g', 0, none⟩) T'.length c').ownBlock = some q → q = v2.heap.size → False) := hidI (fun q hq e => absurd (ofT_one (own_ofT RR.out hq) (e ▸ tB.out)) (by decide))
     refine wpAnyH_ready (rs := [12]) (by kernel_rfl) (by simp) ?_
     refine AllReadyH.cons (o := ⟨none, .store 37 (.tmp 13) (.tmp 53), 0, "l5_store.go:182", #[⟨11, .data⟩, ⟨9, .data⟩, ⟨7, .chain⟩, ⟨0, .phase⟩, ⟨1, .phase⟩, ⟨2, .phase⟩, ⟨3, .phase⟩, ⟨4, .phase⟩, ⟨5, .phase⟩, ⟨6, .phase⟩, ⟨7, .phase⟩, ⟨8, .phase⟩, ⟨9, .phase⟩, ⟨10, .textOnly .lateStores⟩, ⟨11, .phase⟩], none⟩) rfl (fun K hK => ?_) AllReadyH.nil
     refine step_store_blk rfl 37 (.tmp 13) (.tmp 53) rfl v2.heap.size 0 rfl [.int .i64 W, .slice (some ⟨g', 0, none⟩) T'.length c', .slice a2 P.length c2] rfl (blk_some bB.out rfl) oB.out (by simp [Value.oneCell']) (by kernel_rfl) rfl ?_
     clear hHeld
     refine st_overB (old := [.int .i64 0, .slice none 0 0, .slice none 0 0]) (N := u.heap.size) rfl bB.out oB.out (by omega) ?_
     intro E bE ZE OE hE
     have kE : Below u.heap.size u E := kv3.trans bE
     have a0E := (kE.cell (p := ⟨A, 0, none⟩) hAu).trans z0
     have a1E := (kE.cell (p := ⟨A, 1, none⟩) hAu).trans z1
     have a2E := (kE.cell (p := ⟨A, 2, none⟩) hAu).trans z2
     have a3E := (kE.cell (p := ⟨lb, lq + k * 4 + 2, none⟩) hlu).trans z3
     have a4E := (kE.cell (p := ⟨lb, lq + k * 4 + 3, none⟩) hlu).trans z4
     have lE := kE.size
     have RE : E.ownsRow N 9 1 (.slice (some ⟨g', 0, none⟩) T'.length c') T'.length (T'.map Value.string) := own_keep' RR.out (fun q hq => hE q (fun e => HNB.out q hq e))
     refine hK.out _ _ ⟨a0E, a1E, a2E, a3E, a4E⟩ (fun hHeld => ?_)
     clear hK K
     try simp only [Act.put, qA, qB, qC]
     refine wpAnyH_take (i := 13) (oi := ⟨some 14, .assign (.tmp 54), 4, "l5_store.go:182", #[⟨10, .data⟩, ⟨12, .chain⟩, ⟨0, .phase⟩, ⟨1, .phase⟩, ⟨2, .phase⟩, ⟨3, .phase⟩, ⟨4, .phase⟩, ⟨5, .phase⟩, ⟨6, .phase⟩, ⟨7, .phase⟩, ⟨8, .phase⟩, ⟨9, .phase⟩, ⟨10, .phase⟩, ⟨11, .phase⟩, ⟨12, .phase⟩], none⟩) (v := ?_) rfl (by kernel_rfl) (by kernel_rfl) (by kernel_rfl) (fun _ _ _ h => hQ _ _ _ _ _ h) (Or.inl ⟨by rfl, ?_⟩) (by assumption) ?_
     rotate_left
     · intro wq hSw
       (try dsimp only at hSw)
       go_simp
       try with_reducible rfl
     try simp only [Act.put, qA, qB, qC]
     refine wpAnyH_done (by kernel_rfl) ?_ _
     clear hHeld
     exact hKK _ _ _ _ _ _ _ _ _ _ _ g' c' v2.heap.size E kE (by omega) (by have := kE.size; have := bE.size; omega) ZE RE
   · go_simp
     have kv2 : Below u.heap.size u (v1.alloc (.cells #[.int .i64 0, .slice none 0 0, .slice none 0 0] 37)) := (kv1.alloc lv1 _)
     have bB : Hid (BlkAt (v1.alloc (.cells #[.int .i64 0, .slice none 0 0, .slice none 0 0] 37)) v1.heap.size [.int .i64 0, .slice none 0 0, .slice none 0 0]) := hidI (blk_new v1 [.int .i64 0, .slice none 0 0, .slice none 0 0] 37)
     have oB : Hid (OpnAt (v1.alloc (.cells #[.int .i64 0, .slice none 0 0, .slice none 0 0] 37)) v1.heap.size) := hidI (opn_new v1 #[.int .i64 0, .slice none 0 0, .slice none 0 0] 37)
     have tB : Hid (OfT (v1.alloc (.cells #[.int .i64 0, .slice none 0 0, .slice none 0 0] 37)) v1.heap.size 37) := hidI (ofT_new v1 #[.int .i64 0, .slice none 0 0, .slice none 0 0] 37)
     have hBl : v1.heap.size < (v1.alloc (.cells #[.int .i64 0, .slice none 0 0, .slice none 0 0] 37)).heap.size := by simp
     have kkv2 : Hid (Below v1.heap.size v1 (v1.alloc (.cells #[.int .i64 0, .slice none 0 0, .slice none 0 0] 37))) := hidI ((Below.refl _ _).alloc (Nat.le_refl _) _)
     have a0v2 := (kv2.cell (p := ⟨A, 0, none⟩) hAu).trans z0
     have a1v2 := (kv2.cell (p := ⟨A, 1, none⟩) hAu).trans z1
     have a2v2 := (kv2.cell (p := ⟨A, 2, none⟩) hAu).trans z2
     have a3v2 := (kv2.cell (p := ⟨lb, lq + k * 4 + 2, none⟩) hlu).trans z3
     have a4v2 := (kv2.cell (p := ⟨lb, lq + k * 4 + 3, none⟩) hlu).trans z4
     have lv2 := kv2.size
     clear hHeld
     refine hK.out _ _ ⟨a0v2, a1v2, a2v2, a3v2, a4v2⟩ (fun hHeld => ?_)
     clear hK K
     try simp only [Act.put, qA, qB, qC]
     generalize (v1.alloc (.cells #[.int .i64 0, .slice none 0 0, .slice none 0 0] 37)) = v2 at *
     refine wpAnyH_ready (rs := [7]) (by kernel_rfl) (by simp) ?_
     refine AllReadyH.cons (o := ⟨some 52, .call ⟨.value (.func 25), #[.tmp 45, .tmp 51], #[37, 9]⟩, 62, "l5_store.go:182", #[⟨0, .data⟩, ⟨6, .data⟩, ⟨6, .chain⟩], none⟩) rfl (fun K hK => ?_) AllReadyH.nil
     go_simp
     refine (h25 v2 kv2).mono ?_
     rintro e v3 ⟨⟨g', c', rfl, hrv3⟩, hcv3⟩
     go_wp2_with fail
     have kv3 : Below u.heap.size u v3 := kv2.trans (hcv3.mono lv2)
     have Rv3 := hidI hrv3
     clear hrv3
     have szv3 : v2.heap.size ≤ v3.heap.size := hcv3.size
     have a0v3 := (kv3.cell (p := ⟨A, 0, none⟩) hAu).trans z0
     have a1v3 := (kv3.cell (p := ⟨A, 1, none⟩) hAu).trans z1
     have a2v3 := (kv3.cell (p := ⟨A, 2, none⟩) hAu).trans z2
     have a3v3 := (kv3.cell (p := ⟨lb, lq + k * 4 + 2, none⟩) hlu).trans z3
     have a4v3 := (kv3.cell (p := ⟨lb, lq + k * 4 + 3, none⟩) hlu).trans z4
     have lv3 := kv3.size
     have bB2 := hidI (bB.out.below hcv3 hBl)
     have oB2 := hidI (oB.out.below hcv3 hBl)
     clear bB oB
     have bB := bB2
     have oB := oB2
     have tB2 := hidI (tB.out.below hcv3 hBl)
     clear tB
     have tB := tB2
     have RR := Rv3
     have HNB : Hid (∀ q, (Value.slice (some ⟨g', 0, none⟩) T'.length c').ownBlock = some q → q = v1.heap.size → False) := hidI (fun q hq e => absurd (ofT_one (own_ofT RR.out hq) (e ▸ tB.out)) (by decide))
     clear hHeld
     refine hK.out _ _ ⟨a0v3, a1v3, a2v3, a3v3, a4v3⟩ (fun hHeld => ?_)
     clear hK K
     try simp only [Act.put, qA, qB, qC]
     refine wpAnyH_take (i := 8) (oi := ⟨some 44, .move (.tmp 52), 62, "l5_store.go:182", #[⟨7, .data⟩], none⟩) (v := ?_) rfl (by kernel_rfl) (by kernel_rfl) (by kernel_rfl) (fun _ _ _ h => hQ _ _ _ _ _ h) (Or.inl ⟨by rfl, ?_⟩) (by assumption) ?_
     rotate_left
     · intro wq hSw
       (try dsimp only at hSw)
       go_simp
       try with_reducible rfl
     try simp only [Act.put, qA, qB, qC]
     refine wpAnyH_take (i := 9) (oi := ⟨some 53, .extract (.tmp 44) 0, 37, "l5_store.go:182", #[⟨8, .data⟩], none⟩) (v := ?_) rfl (by kernel_rfl) (by kernel_rfl) (by kernel_rfl) (fun _ _ _ h => hQ _ _ _ _ _ h) (Or.inl ⟨by rfl, ?_⟩) (by assumption) ?_
     rotate_left
     · intro wq hSw
       (try dsimp only at hSw)
       go_simp
       try with_reducible rfl
     try simp only [Act.put, qA, qB, qC]
     refine wpAnyH_take (i := 10) (oi := ⟨some 54, .extract (.tmp 44) 1, 4, "l5_store.go:182", #[⟨8, .data⟩, ⟨12, .gcOnly .lateStores⟩], none⟩) (v := ?_) rfl (by kernel_rfl) (by kernel_rfl) (by kernel_rfl) (fun _ _ _ h => hQ _ _ _ _ _ h) (Or.inl ⟨by rfl, ?_⟩) (by assumption) ?_
     rotate_left
     · intro wq hSw
       (try dsimp only at hSw)
       go_simp
       try with_reducible rfl
     try simp only [Act.put, qA, qB, qC]
     refine wpAnyH_ready (rs := [12]) (by kernel_rfl) (by simp) ?_
     refine AllReadyH.cons (o := ⟨none, .store 37 (.tmp 13) (.tmp 53), 0, "l5_store.go:182", #[⟨11, .data⟩, ⟨9, .data⟩, ⟨7, .chain⟩, ⟨0, .phase⟩, ⟨1, .phase⟩, ⟨2, .phase⟩, ⟨3, .phase⟩, ⟨4, .phase⟩, ⟨5, .phase⟩, ⟨6, .phase⟩, ⟨7, .phase⟩, ⟨8, .phase⟩, ⟨9, .phase⟩, ⟨10, .textOnly .lateStores⟩, ⟨11, .phase⟩], none⟩) rfl (fun K hK => ?_) AllReadyH.nil
     refine step_store_blk rfl 37 (.tmp 13) (.tmp 53) rfl v1.heap.size 0 rfl [.int .i64 W, .slice (some ⟨g', 0, none⟩) T'.length c', .slice a2 P.length c2] rfl (blk_some bB.out rfl) oB.out (by simp [Value.oneCell']) (by kernel_rfl) rfl ?_
     clear hHeld
     refine st_overB (old := [.int .i64 0, .slice none 0 0, .slice none 0 0]) (N := u.heap.size) rfl bB.out oB.out (by omega) ?_
     intro E bE ZE OE hE
     have kE : Below u.heap.size u E := kv3.trans bE
     have a0E := (kE.cell (p := ⟨A, 0, none⟩) hAu).trans z0
     have a1E := (kE.cell (p := ⟨A, 1, none⟩) hAu).trans z1
     have a2E := (kE.cell (p := ⟨A, 2, none⟩) hAu).trans z2
     have a3E := (kE.cell (p := ⟨lb, lq + k * 4 + 2, none⟩) hlu).trans z3
     have a4E := (kE.cell (p := ⟨lb, lq + k * 4 + 3, none⟩) hlu).trans z4
     have lE := kE.size
     have RE : E.ownsRow N 9 1 (.slice (some ⟨g', 0, none⟩) T'.length c') T'.length (T'.map Value.string) := own_keep' RR.out (fun q hq => hE q (fun e => HNB.out q hq e))
     refine hK.out _ _ ⟨a0E, a1E, a2E, a3E, a4E⟩ (fun hHeld => ?_)
     clear hK K
     try simp only [Act.put, qA, qB, qC]
     refine wpAnyH_take (i := 13) (oi := ⟨some 14, .assign (.tmp 54), 4, "l5_store.go:182", #[⟨10, .data⟩, ⟨12, .chain⟩, ⟨0, .phase⟩, ⟨1, .phase⟩, ⟨2, .phase⟩, ⟨3, .phase⟩, ⟨4, .phase⟩, ⟨5, .phase⟩, ⟨6, .phase⟩, ⟨7, .phase⟩, ⟨8, .phase⟩, ⟨9, .phase⟩, ⟨10, .phase⟩, ⟨11, .phase⟩, ⟨12, .phase⟩], none⟩) (v := ?_) rfl (by kernel_rfl) (by kernel_rfl) (by kernel_rfl) (fun _ _ _ h => hQ _ _ _ _ _ h) (Or.inl ⟨by rfl, ?_⟩) (by assumption) ?_
     rotate_left
     · intro wq hSw
       (try dsimp only at hSw)
       go_simp
       try with_reducible rfl
     try simp only [Act.put, qA, qB, qC]
     refine wpAnyH_done (by kernel_rfl) ?_ _
     clear hHeld
     exact hKK _ _ _ _ _ _ _ _ _ _ _ g' c' v1.heap.size E kE (by omega) (by have := kE.size; have := bE.size; omega) ZE RE
 · go_simp
   have kv1 : Below u.heap.size u ((u.alloc (.cells #[.int .i64 0, .slice none 0 0, .slice none 0 0] 37)).drew) := (ku.alloc lu _).drew
   have bB : Hid (BlkAt ((u.alloc (.cells #[.int .i64 0, .slice none 0 0, .slice none 0 0] 37)).drew) u.heap.size [.int .i64 0, .slice none 0 0, .slice none 0 0]) := hidI (blk_new u [.int .i64 0, .slice none 0 0, .slice none 0 0] 37)
   have oB : Hid (OpnAt ((u.alloc (.cells #[.int .i64 0, .slice none 0 0, .slice none 0 0] 37)).drew) u.heap.size) := hidI (opn_new u #[.int .i64 0, .slice none 0 0, .slice none 0 0] 37)
   have tB : Hid (OfT ((u.alloc (.cells #[.int .i64 0, .slice none 0 0, .slice none 0 0] 37)).drew) u.heap.size 37) := hidI (ofT_new u #[.int .i64 0, .slice none 0 0, .slice none 0 0] 37)
   have hBl : u.heap.size < ((u.alloc (.cells #[.int .i64 0, .slice none 0 0, .slice none 0 0] 37)).drew).heap.size := by simp
   have kkv1 : Hid (Below u.heap.size u ((u.alloc (.cells #[.int .i64 0, .slice none 0 0, .slice none 0 0] 37)).drew)) := hidI (((Below.refl _ _).alloc (Nat.le_refl _) _).drew)
   have a0v1 := (kv1.cell (p := ⟨A, 0, none⟩) hAu).trans z0
   have a1v1 := (kv1.cell (p := ⟨A, 1, none⟩) hAu).trans z1
   have a2v1 := (kv1.cell (p := ⟨A, 2, none⟩) hAu).trans z2
   have a3v1 := (kv1.cell (p := ⟨lb, lq + k * 4 + 2, none⟩) hlu).trans z3
   have a4v1 := (kv1.cell (p := ⟨lb, lq + k * 4 + 3, none⟩) hlu).trans z4
   have lv1 := kv1.size
   clear hHeld
   refine hK.out _ _ ⟨a0v1, a1v1, a2v1, a3v1, a4v1⟩ (fun hHeld => ?_)
   clear hK K
   try simp only [Act.put, qA, qB, qC]
   generalize ((u.alloc (.cells #[.int .i64 0, .slice none 0 0, .slice none 0 0] 37)).drew) = v1 at *
   refine wpAnyH_ready (rs := [6]) (by kernel_rfl) (by simp) ?_
   refine AllReadyH.cons (o := ⟨some 51, .call ⟨.value (.func 26), #[.tmp 50], #[45]⟩, 9, "l5_store.go:182", #[⟨5, .data⟩], none⟩) rfl (fun K hK => ?_) AllReadyH.nil
   go_simp
   refine (c26n cd tx fm _ HF.out htx).mono ?_
   rintro e v2 ⟨rfl, hcv2⟩
   go_wp2_with fail
   have kv2 : Below u.heap.size u v2 := kv1.trans (hcv2.mono lv1)
   have szv2 : v1.heap.size ≤ v2.heap.size := hcv2.size
   have a0v2 := (kv2.cell (p := ⟨A, 0, none⟩) hAu).trans z0
   have a1v2 := (kv2.cell (p := ⟨A, 1, none⟩) hAu).trans z1
   have a2v2 := (kv2.cell (p := ⟨A, 2, none⟩) hAu).trans z2
   have a3v2 := (kv2.cell (p := ⟨lb, lq + k * 4 + 2, none⟩) hlu).trans z3
   have a4v2 := (kv2.cell (p := ⟨lb, lq + k * 4 + 3, none⟩) hlu).trans z4
   have lv2 := kv2.size
   clear hHeld
   refine hK.out _ _ ⟨a0v2, a1v2, a2v2, a3v2, a4v2⟩ (fun hHeld => ?_)
   clear hK K
   try simp only [Act.put, qA, qB, qC]
   have hcc := hcv2
   refine wpAnyH_ready (rs := [7]) (by kernel_rfl) (by simp) ?_
   refine AllReadyH.cons (o := ⟨some 52, .call ⟨.value (.func 25), #[.tmp 45, .tmp 51], #[37, 9]⟩, 62, "l5_store.go:182", #[⟨0, .data⟩, ⟨6, .data⟩, ⟨6, .chain⟩], none⟩) rfl (fun K hK => ?_) AllReadyH.nil
   go_simp
   refine (h25 v2 kv2).mono ?_
   rintro e v3 ⟨⟨g', c', rfl, hrv3⟩, hcv3⟩
   go_wp2_with fail
   have kv3 : Below u.heap.size u v3 := kv2.trans (hcv3.mono lv2)
   have Rv3 := hidI hrv3
   clear hrv3
   have szv3 : v2.heap.size ≤ v3.heap.size := hcv3.size
   have a0v3 := (kv3.cell (p := ⟨A, 0, none⟩) hAu).trans z0
   have a1v3 := (kv3.cell (p := ⟨A, 1, none⟩) hAu).trans z1
   have a2v3 := (kv3.cell (p := ⟨A, 2, none⟩) hAu).trans z2
   have a3v3 := (kv3.cell (p := ⟨lb, lq + k * 4 + 2, none⟩) hlu).trans z3
   have a4v3 := (kv3.cell (p := ⟨lb, lq + k * 4 + 3, none⟩) hlu).trans z4
   have lv3 := kv3.size
   have bB2 := hidI ((bB.out.below hcv2 hBl).below hcv3 (by have := hcv2.size; omega))
   have oB2 := hidI ((oB.out.below hcv2 hBl).below hcv3 (by have := hcv2.size; omega))
   clear bB oB
   have bB := bB2
   have oB := oB2
   have tB2 := hidI ((tB.out.below hcv2 hBl).below hcv3 (by have := hcv2.size; omega))
   clear tB
   have tB := tB2
   have RR := Rv3
   have HNB : Hid (∀ q, (Value.slice (some ⟨g', 0, none⟩) T'.length c').ownBlock = some q → q = u.heap.size → False) := hidI (fun q hq e => absurd (ofT_one (own_ofT RR.out hq) (e ▸ tB.out)) (by decide))
   clear hHeld
   refine hK.out _ _ ⟨a0v3, a1v3, a2v3, a3v3, a4v3⟩ (fun hHeld => ?_)
   clear hK K
   try simp only [Act.put, qA, qB, qC]
   refine wpAnyH_take (i := 8) (oi := ⟨some 44, .move (.tmp 52), 62, "l5_store.go:182", #[⟨7, .data⟩], none⟩) (v := ?_) rfl (by kernel_rfl) (by kernel_rfl) (by kernel_rfl) (fun _ _ _ h => hQ _ _ _ _ _ h) (Or.inl ⟨by rfl, ?_⟩) (by assumption) ?_
   rotate_left
   · intro wq hSw
     (try dsimp only at hSw)
     go_simp
     try with_reducible rfl
   try simp only [Act.put, qA, qB, qC]
   refine wpAnyH_take (i := 9) (oi := ⟨some 53, .extract (.tmp 44) 0, 37, "l5_store.go:182", #[⟨8, .data⟩], none⟩) (v := ?_) rfl (by kernel_rfl) (by kernel_rfl) (by kernel_rfl) (fun _ _ _ h => hQ _ _ _ _ _ h) (Or.inl ⟨by rfl, ?_⟩) (by assumption) ?_
   rotate_left
   · intro wq hSw
     (try dsimp only at hSw)
     go_simp
     try with_reducible rfl
   try simp only [Act.put, qA, qB, qC]
   refine wpAnyH_take (i := 10) (oi := ⟨some 54, .extract (.tmp 44) 1, 4, "l5_store.go:182", #[⟨8, .data⟩, ⟨12, .gcOnly .lateStores⟩], none⟩) (v := ?_) rfl (by kernel_rfl) (by kernel_rfl) (by kernel_rfl) (fun _ _ _ h => hQ _ _ _ _ _ h) (Or.inl ⟨by rfl, ?_⟩) (by assumption) ?_
   rotate_left
   · intro wq hSw
     (try dsimp only at hSw)
     go_simp
     try with_reducible rfl
   try simp only [Act.put, qA, qB, qC]
   refine wpAnyH_ready (rs := [12]) (by kernel_rfl) (by simp) ?_
   refine AllReadyH.cons (o := ⟨none, .store 37 (.tmp 13) (.tmp 53), 0, "l5_store.go:182", #[⟨11, .data⟩, ⟨9, .data⟩, ⟨7, .chain⟩, ⟨0, .phase⟩, ⟨1, .phase⟩, ⟨2, .phase⟩, ⟨3, .phase⟩, ⟨4, .phase⟩, ⟨5, .phase⟩, ⟨6, .phase⟩, ⟨7, .phase⟩, ⟨8, .phase⟩, ⟨9, .phase⟩, ⟨10, .textOnly .lateStores⟩, ⟨11, .phase⟩], none⟩) rfl (fun K hK => ?_) AllReadyH.nil
   refine step_store_blk rfl 37 (.tmp 13) (.tmp 53) rfl u.heap.size 0 rfl [.int .i64 W, .slice (some ⟨g', 0, none⟩) T'.length c', .slice a2 P.length c2] rfl (blk_some bB.out rfl) oB.out (by simp [Value.oneCell']) (by kernel_rfl) rfl ?_
   clear hHeld
   refine st_overB (old := [.int .i64 0, .slice none 0 0, .slice none 0 0]) (N := u.heap.size) rfl bB.out oB.out (by omega) ?_
   intro E bE ZE OE hE
   have kE : Below u.heap.size u E := kv3.trans bE
   have a0E := (kE.cell (p := ⟨A, 0, none⟩) hAu).trans z0
   have a1E := (kE.cell (p := ⟨A, 1, none⟩) hAu).trans z1
   have a2E := (kE.cell (p := ⟨A, 2, none⟩) hAu).trans z2
   have a3E := (kE.cell (p := ⟨lb, lq + k * 4 + 2, none⟩) hlu).trans z3
   have a4E := (kE.cell (p := ⟨lb, lq + k * 4 + 3, none⟩) hlu).trans z4
   have lE := kE.size
   have RE : E.ownsRow N 9 1 (.slice (some ⟨g', 0, none⟩) T'.length c') T'.length (T'.map Value.string) := own_keep' RR.out (fun q hq => hE q (fun e => HNB.out q hq e))
   refine hK.out _ _ ⟨a0E, a1E, a2E, a3E, a4E⟩ (fun hHeld => ?_)
   clear hK K
   try simp only [Act.put, qA, qB, qC]
   refine wpAnyH_take (i := 13) (oi := ⟨some 14, .assign (.tmp 54), 4, "l5_store.go:182", #[⟨10, .data⟩, ⟨12, .chain⟩, ⟨0, .phase⟩, ⟨1, .phase⟩, ⟨2, .phase⟩, ⟨3, .phase⟩, ⟨4, .phase⟩, ⟨5, .phase⟩, ⟨6, .phase⟩, ⟨7, .phase⟩, ⟨8, .phase⟩, ⟨9, .phase⟩, ⟨10, .phase⟩, ⟨11, .phase⟩, ⟨12, .phase⟩], none⟩) (v := ?_) rfl (by kernel_rfl) (by kernel_rfl) (by kernel_rfl) (fun _ _ _ h => hQ _ _ _ _ _ h) (Or.inl ⟨by rfl, ?_⟩) (by assumption) ?_
   rotate_left
   · intro wq hSw
     (try dsimp only at hSw)
     go_simp
     try with_reducible rfl
   try simp only [Act.put, qA, qB, qC]
   refine wpAnyH_done (by kernel_rfl) ?_ _
   clear hHeld
   exact hKK _ _ _ _ _ _ _ _ _ _ _ g' c' u.heap.size E kE (by omega) (by have := kE.size; have := bE.size; omega) ZE RE
set_option maxHeartbeats 8000000 in
theorem r14 {K : Act → World → Prop} {Q : Exit → Act → World → Prop} {d0 d1 d2 d3 d4 d5 d6 d8 d9 d11 d12 d13 d14 d15 d16 d17 d18 d19 d20 d21 d22 d23 d24 d25 d26 d27 d28 d29 d30 d31 d32 d33 d34 d35 d36 d37 d38 d39 d40 d41 d42 d43 d44 d45 d46 d47 d48 d49 d50 d51 d52 d53 d54 d55 d56 d57 d58 d59 d60 d61 d62 d63 d64 d65 d66 d67 d68 d69 d70 d71 d72 d73 d74 d75 d76 d77 d78 d79 d80 d81 d82 d83 d84 d85 d86 d87 d88 d89 d90 d91 d92 d93 d94 d95 d96 d97 d98 d99 d100 d101 d102 d103 d104 d105 d106 d107 d108 d109 d110 d111 d112 d113 d114 d115 d116 d117 : Value} {N A lb g c : Nat} {W cd : Int} {tx fm : ByteArray} {T T' : List ByteArray} {b' : Bool} {P : List R3} {a2 : Option Addr} {c2 : Nat} {u : World}  (BA : BlkAt u A [.int .i64 W, .slice (some ⟨g, 0, none⟩) T.length c, .slice a2 P.length c2]) (hAu : A < u.heap.size) (hlu : lb < u.heap.size) (z3 : u.cell? ⟨lb, 0, none⟩ = some (.int .i64 cd)) (z4 : u.cell? ⟨lb, 1, none⟩ = some (.string tx)) (hf : fmR cd tx = fm) (htx : tx.size ≤ 1048700) (hfm : fm.size ≤ 1048700) (hA : AscT W T) (hl : T.length ≤ 1000000) (hs : ∀ i, (T.getD i ByteArray.empty).size ≤ 1048700) (hp : putT W fm T = (T', b')) (ho : u.ownsRow N 9 1 (.slice (some ⟨g, 0, none⟩) T.length c) T.length (T.map Value.string)) (hN : N ≤ u.heap.size) 
 (hQ : ∀ (d : Nat) v c (a : Act) w, Q (.panic c) (a.put (some d) v) w → Q (.panic c) a w) (hKK : ∀ (y60 y61 y62 y63 y64 y65 y66 : Value) (g' c' B : Nat) (E : World), Below u.heap.size u E → u.heap.size ≤ B → B < E.heap.size → BlkAt E B [.int .i64 W, .slice (some ⟨g', 0, none⟩) T'.length c', .slice a2 P.length c2] → E.ownsRow N 9 1 (.slice (some ⟨g', 0, none⟩) T'.length c') T'.length (T'.map Value.string) → K { tmps := #[d0, d1, d2, d3, d4, d5, d6, .pointer (some ⟨lb, 0, none⟩), d8, d9, .pointer (some ⟨A, 0, none⟩), d11, d12, d13, d14, .pointer (some ⟨B, 0, none⟩), .bool b', d17, d18, d19, d20, d21, d22, d23, d24, d25, d26, d27, d28, d29, d30, d31, d32, d33, d34, d35, d36, d37, d38, d39, d40, d41, d42, d43, d44, d45, d46, d47, d48, d49, d50, d51, d52, d53, d54, d55, d56, d57, d58, d59, y60, y61, y62, y63, y64, y65, y66, d67, d68, d69, d70, d71, d72, d73, d74, d75, d76, d77, d78, d79, d80, d81, d82, d83, d84, d85, d86, d87, d88, d89, d90, d91, d92, d93, d94, d95, d96, d97, d98, d99, d100, d101, d102, d103, d104, d105, d106, d107, d108, d109, d110, d111, d112, d113, d114, d115, d116, d117], defers := [] } E) :
 Code.wp Tryz.prog (Code.region 14 #[⟨some 61, .load 37 (.tmp 10), 37, "l5_store.go:187", #[], none⟩, ⟨some 62, .load 45 (.tmp 7), 45, "l5_store.go:187", #[], none⟩, ⟨some 63, .call ⟨.value (.func 26), #[.tmp 62], #[45]⟩, 9, "l5_store.go:187", #[⟨1, .data⟩], none⟩, ⟨some 64, .call ⟨.value (.func 25), #[.tmp 61, .tmp 63], #[37, 9]⟩, 62, "l5_store.go:187", #[⟨0, .data⟩, ⟨2, .data⟩, ⟨2, .chain⟩], none⟩, ⟨some 60, .move (.tmp 64), 62, "l5_store.go:187", #[⟨3, .data⟩], none⟩, ⟨some 65, .extract (.tmp 60) 0, 37, "l5_store.go:187", #[⟨4, .data⟩], none⟩, ⟨some 66, .extract (.tmp 60) 1, 4, "l5_store.go:187", #[⟨4, .data⟩, ⟨8, .gcOnly .lateStores⟩], none⟩, ⟨some 15, .alloc 37, 0, "l5_store.go:187", #[], none⟩, ⟨none, .store 37 (.tmp 15) (.tmp 65), 0, "l5_store.go:187", #[⟨7, .data⟩, ⟨5, .data⟩, ⟨3, .chain⟩, ⟨0, .phase⟩, ⟨1, .phase⟩, ⟨2, .phase⟩, ⟨3, .phase⟩, ⟨4, .phase⟩, ⟨5, .phase⟩, ⟨6, .textOnly .lateStores⟩, ⟨7, .phase⟩], none⟩, ⟨some 16, .assign (.tmp 66), 4, "l5_store.go:187", #[⟨6, .data⟩, ⟨8, .chain⟩, ⟨0, .phase⟩, ⟨1, .phase⟩, ⟨2, .phase⟩, ⟨3, .phase⟩, ⟨4, .phase⟩, ⟨5, .phase⟩, ⟨6, .phase⟩, ⟨7, .phase⟩, ⟨8, .phase⟩], none⟩] true) (Exit.then K Q) { tmps := #[d0, d1, d2, d3, d4, d5, d6, .pointer (some ⟨lb, 0, none⟩), d8, d9, .pointer (some ⟨A, 0, none⟩), d11, d12, d13, d14, d15, d16, d17, d18, d19, d20, d21, d22, d23, d24, d25, d26, d27, d28, d29, d30, d31, d32, d33, d34, d35, d36, d37, d38, d39, d40, d41, d42, d43, d44, d45, d46, d47, d48, d49, d50, d51, d52, d53, d54, d55, d56, d57, d58, d59, d60, d61, d62, d63, d64, d65, d66, d67, d68, d69, d70, d71, d72, d73, d74, d75, d76, d77, d78, d79, d80, d81, d82, d83, d84, d85, d86, d87, d88, d89, d90, d91, d92, d93, d94, d95, d96, d97, d98, d99, d100, d101, d102, d103, d104, d105, d106, d107, d108, d109, d110, d111, d112, d113, d114, d115, d116, d117], defers := [] } u := by
 have z0 := BA 0 _ rfl
 have z1 := BA 1 _ rfl
 have z2 := BA 2 _ rfl
 have HF := hidI hf
 have ku : Below u.heap.size u u := Below.refl _ _
 have lu : u.heap.size ≤ u.heap.size := Nat.le_refl _
 have h25 : ∀ v, Below u.heap.size u v → Calls Tryz.prog 25 #[.agg #[.int .i64 W, .slice (some ⟨g, 0, none⟩) T.length c, .slice a2 P.length c2], .string fm] v fun e w' => (∃ g' c', e = .returned (.tuple #[.agg #[.int .i64 W, .slice (some ⟨g', 0, none⟩) T'.length c', .slice a2 P.length c2], .bool b']) ∧ w'.ownsRow N 9 1 (.slice (some ⟨g', 0, none⟩) T'.length c') T'.length (T'.map Value.string)) ∧ Below v.heap.size v w' := fun v hv => by
  have h := c25 W T fm N g c P.length c2 a2 v hA hl hs hfm (own_below ho hv) (Nat.le_trans hN hv.size)
  rw [hp] at h
  exact h
 clear hf hp hA hs ho
 refine wp_region_held_drew (S := (fun u => u.cell? ⟨A, 0, none⟩ = some (.int .i64 W) ∧ u.cell? ⟨A, 1, none⟩ = some (.slice (some ⟨g, 0, none⟩) T.length c) ∧ u.cell? ⟨A, 2, none⟩ = some (.slice a2 P.length c2) ∧ u.cell? ⟨lb, 0, none⟩ = some (.int .i64 cd) ∧ u.cell? ⟨lb, 1, none⟩ = some (.string tx))) (by kernel_rfl) ?_ (fun hHeld => ?_)
 · exact ⟨z0, z1, z2, z3, z4⟩
 refine wpAnyH_take (i := 0) (oi := ⟨some 61, .load 37 (.tmp 10), 37, "l5_store.go:187", #[], none⟩) (v := ?_) rfl (by kernel_rfl) (by kernel_rfl) (by kernel_rfl) (fun _ _ _ h => hQ _ _ _ _ _ h) (Or.inl ⟨by rfl, ?_⟩) (by assumption) ?_
 rotate_left
 · intro wq hSw
   (try dsimp only at hSw)
   go_simp
   try with_reducible rfl
 try simp only [Act.put, qA, qB, qC]
 refine wpAnyH_take (i := 1) (oi := ⟨some 62, .load 45 (.tmp 7), 45, "l5_store.go:187", #[], none⟩) (v := ?_) rfl (by kernel_rfl) (by kernel_rfl) (by kernel_rfl) (fun _ _ _ h => hQ _ _ _ _ _ h) (Or.inl ⟨by rfl, ?_⟩) (by assumption) ?_
 rotate_left
 · intro wq hSw
   (try dsimp only at hSw)
   go_simp
   try with_reducible rfl
 try simp only [Act.put, qA, qB, qC]
 refine wpAnyH_ready (rs := [2, 7]) (by kernel_rfl) (by simp) ?_
 refine AllReadyH.cons (o := ⟨some 63, .call ⟨.value (.func 26), #[.tmp 62], #[45]⟩, 9, "l5_store.go:187", #[⟨1, .data⟩], none⟩) rfl (fun K hK => ?_) (AllReadyH.cons (o := ⟨some 15, .alloc 37, 0, "l5_store.go:187", #[], none⟩) rfl (fun K hK => ?_) AllReadyH.nil)
 · go_simp
   refine (c26n cd tx fm _ HF.out htx).mono ?_
   rintro e v1 ⟨rfl, hcv1⟩
   go_wp2_with fail
   have kv1 : Below u.heap.size u v1 := ku.drew.trans hcv1
   have szv1 : u.heap.size ≤ v1.heap.size := hcv1.size
   have a0v1 := (kv1.cell (p := ⟨A, 0, none⟩) hAu).trans z0
   have a1v1 := (kv1.cell (p := ⟨A, 1, none⟩) hAu).trans z1
   have a2v1 := (kv1.cell (p := ⟨A, 2, none⟩) hAu).trans z2
   have a3v1 := (kv1.cell (p := ⟨lb, 0, none⟩) hlu).trans z3
   have a4v1 := (kv1.cell (p := ⟨lb, 1, none⟩) hlu).trans z4
   have lv1 := kv1.size
   clear hHeld
   refine hK.out _ _ ⟨a0v1, a1v1, a2v1, a3v1, a4v1⟩ (fun hHeld => ?_)
   clear hK K
   try simp only [Act.put, qA, qB, qC]
   refine wpAnyH_ready (rs := [3, 7]) (by kernel_rfl) (by simp) ?_
   refine AllReadyH.cons (o := ⟨some 64, .call ⟨.value (.func 25), #[.tmp 61, .tmp 63], #[37, 9]⟩, 62, "l5_store.go:187", #[⟨0, .data⟩, ⟨2, .data⟩, ⟨2, .chain⟩], none⟩) rfl (fun K hK => ?_) (AllReadyH.cons (o := ⟨some 15, .alloc 37, 0, "l5_store.go:187", #[], none⟩) rfl (fun K hK => ?_) AllReadyH.nil)
   · go_simp
     refine (h25 v1 kv1).mono ?_
     rintro e v2 ⟨⟨g', c', rfl, hrv2⟩, hcv2⟩
     go_wp2_with fail
     have kv2 : Below u.heap.size u v2 := kv1.trans (hcv2.mono lv1)
     have Rv2 := hidI hrv2
     clear hrv2
     have szv2 : v1.heap.size ≤ v2.heap.size := hcv2.size
     have a0v2 := (kv2.cell (p := ⟨A, 0, none⟩) hAu).trans z0
     have a1v2 := (kv2.cell (p := ⟨A, 1, none⟩) hAu).trans z1
     have a2v2 := (kv2.cell (p := ⟨A, 2, none⟩) hAu).trans z2
     have a3v2 := (kv2.cell (p := ⟨lb, 0, none⟩) hlu).trans z3
     have a4v2 := (kv2.cell (p := ⟨lb, 1, none⟩) hlu).trans z4
     have lv2 := kv2.size
     clear hHeld
     refine hK.out _ _ ⟨a0v2, a1v2, a2v2, a3v2, a4v2⟩ (fun hHeld => ?_)
     clear hK K
     try simp only [Act.put, qA, qB, qC]
     refine wpAnyH_take (i := 4) (oi := ⟨some 60, .move (.tmp 64), 62, "l5_store.go:187", #[⟨3, .data⟩], none⟩) (v := ?_) rfl (by kernel_rfl) (by kernel_rfl) (by kernel_rfl) (fun _ _ _ h => hQ _ _ _ _ _ h) (Or.inl ⟨by rfl, ?_⟩) (by assumption) ?_
     rotate_left
     · intro wq hSw
       (try dsimp only at hSw)
       go_simp
       try with_reducible rfl
     try simp only [Act.put, qA, qB, qC]
     refine wpAnyH_take (i := 5) (oi := ⟨some 65, .extract (.tmp 60) 0, 37, "l5_store.go:187", #[⟨4, .data⟩], none⟩) (v := ?_) rfl (by kernel_rfl) (by kernel_rfl) (by kernel_rfl) (fun _ _ _ h => hQ _ _ _ _ _ h) (Or.inl ⟨by rfl, ?_⟩) (by assumption) ?_
     rotate_left
     · intro wq hSw
       (try dsimp only at hSw)
       go_simp
       try with_reducible rfl
     try simp only [Act.put, qA, qB, qC]
     refine wpAnyH_take (i := 6) (oi := ⟨some 66, .extract (.tmp 60) 1, 4, "l5_store.go:187", #[⟨4, .data⟩, ⟨8, .gcOnly .lateStores⟩], none⟩) (v := ?_) rfl (by kernel_rfl) (by kernel_rfl) (by kernel_rfl) (fun _ _ _ h => hQ _ _ _ _ _ h) (Or.inl ⟨by rfl, ?_⟩) (by assumption) ?_
     rotate_left
     · intro wq hSw
       (try dsimp only at hSw)
       go_simp
       try with_reducible rfl
     try simp only [Act.put, qA, qB, qC]
     refine wpAnyH_ready (rs := [7]) (by kernel_rfl) (by simp) ?_
     refine AllReadyH.cons (o := ⟨some 15, .alloc 37, 0, "l5_store.go:187", #[], none⟩) rfl (fun K hK => ?_) AllReadyH.nil
     go_simp
     have kv3 : Below u.heap.size u (v2.alloc (.cells #[.int .i64 0, .slice none 0 0, .slice none 0 0] 37)) := (kv2.alloc lv2 _)
     have bB : Hid (BlkAt (v2.alloc (.cells #[.int .i64 0, .slice none 0 0, .slice none 0 0] 37)) v2.heap.size [.int .i64 0, .slice none 0 0, .slice none 0 0]) := hidI (blk_new v2 [.int .i64 0, .slice none 0 0, .slice none 0 0] 37)
     have oB : Hid (OpnAt (v2.alloc (.cells #[.int .i64 0, .slice none 0 0, .slice none 0 0] 37)) v2.heap.size) := hidI (opn_new v2 #[.int .i64 0, .slice none 0 0, .slice none 0 0] 37)
     have tB : Hid (OfT (v2.alloc (.cells #[.int .i64 0, .slice none 0 0, .slice none 0 0] 37)) v2.heap.size 37) := hidI (ofT_new v2 #[.int .i64 0, .slice none 0 0, .slice none 0 0] 37)
     have hBl : v2.heap.size < (v2.alloc (.cells #[.int .i64 0, .slice none 0 0, .slice none 0 0] 37)).heap.size := by simp
     have kkv3 : Hid (Below v2.heap.size v2 (v2.alloc (.cells #[.int .i64 0, .slice none 0 0, .slice none 0 0] 37))) := hidI ((Below.refl _ _).alloc (Nat.le_refl _) _)
     have a0v3 := (kv3.cell (p := ⟨A, 0, none⟩) hAu).trans z0
     have a1v3 := (kv3.cell (p := ⟨A, 1, none⟩) hAu).trans z1
     have a2v3 := (kv3.cell (p := ⟨A, 2, none⟩) hAu).trans z2
     have a3v3 := (kv3.cell (p := ⟨lb, 0, none⟩) hlu).trans z3
     have a4v3 := (kv3.cell (p := ⟨lb, 1, none⟩) hlu).trans z4
     have lv3 := kv3.size
     clear hHeld
     refine hK.out _ _ ⟨a0v3, a1v3, a2v3, a3v3, a4v3⟩ (fun hHeld => ?_)
     clear hK K
     try simp only [Act.put, qA, qB, qC]
     generalize (v2.alloc (.cells #[.int .i64 0, .slice none 0 0, .slice none 0 0] 37)) = v3 at *
     have RR := hidI (own_below Rv2.out kkv3.out)
     have HNB : Hid (∀ q, (Value.slice (some ⟨g', 0, none⟩) T'.length c').ownBlock = some q → q = v2.heap.size → False) := hidI (fun q hq e => absurd (ofT_one (own_ofT RR.out hq) (e ▸ tB.out)) (by decide))
     refine wpAnyH_ready (rs := [8]) (by kernel_rfl) (by simp) ?_
     refine AllReadyH.cons (o := ⟨none, .store 37 (.tmp 15) (.tmp 65), 0, "l5_store.go:187", #[⟨7, .data⟩, ⟨5, .data⟩, ⟨3, .chain⟩, ⟨0, .phase⟩, ⟨1, .phase⟩, ⟨2, .phase⟩, ⟨3, .phase⟩, ⟨4, .phase⟩, ⟨5, .phase⟩, ⟨6, .textOnly .lateStores⟩, ⟨7, .phase⟩], none⟩) rfl (fun K hK => ?_) AllReadyH.nil
     refine step_store_blk rfl 37 (.tmp 15) (.tmp 65) rfl v2.heap.size 0 rfl [.int .i64 W, .slice (some ⟨g', 0, none⟩) T'.length c', .slice a2 P.length c2] rfl (blk_some bB.out rfl) oB.out (by simp [Value.oneCell']) (by kernel_rfl) rfl ?_
     clear hHeld
     refine st_overB (old := [.int .i64 0, .slice none 0 0, .slice none 0 0]) (N := u.heap.size) rfl bB.out oB.out (by omega) ?_
     intro E bE ZE OE hE
     have kE : Below u.heap.size u E := kv3.trans bE
     have a0E := (kE.cell (p := ⟨A, 0, none⟩) hAu).trans z0
     have a1E := (kE.cell (p := ⟨A, 1, none⟩) hAu).trans z1
     have a2E := (kE.cell (p := ⟨A, 2, none⟩) hAu).trans z2
     have a3E := (kE.cell (p := ⟨lb, 0, none⟩) hlu).trans z3
     have a4E := (kE.cell (p := ⟨lb, 1, none⟩) hlu).trans z4
     have lE := kE.size
     have RE : E.ownsRow N 9 1 (.slice (some ⟨g', 0, none⟩) T'.length c') T'.length (T'.map Value.string) := own_keep' RR.out (fun q hq => hE q (fun e => HNB.out q hq e))
     refine hK.out _ _ ⟨a0E, a1E, a2E, a3E, a4E⟩ (fun hHeld => ?_)
     clear hK K
     try simp only [Act.put, qA, qB, qC]
     refine wpAnyH_take (i := 9) (oi := ⟨some 16, .assign (.tmp 66), 4, "l5_store.go:187", #[⟨6, .data⟩, ⟨8, .chain⟩, ⟨0, .phase⟩, ⟨1, .phase⟩, ⟨2, .phase⟩, ⟨3, .phase⟩, ⟨4, .phase⟩, ⟨5, .phase⟩, ⟨6, .phase⟩, ⟨7, .phase⟩, ⟨8, .phase⟩], none⟩) (v := ?_) rfl (by kernel_rfl) (by kernel_rfl) (by kernel_rfl) (fun _ _ _ h => hQ _ _ _ _ _ h) (Or.inl ⟨by rfl, ?_⟩) (by assumption) ?_
     rotate_left
     · intro wq hSw
       (try dsimp only at hSw)
       go_simp
       try with_reducible rfl
     try simp only [Act.put, qA, qB, qC]
     refine wpAnyH_done (by kernel_rfl) ?_ _
     clear hHeld
     exact hKK _ _ _ _ _ _ _ g' c' v2.heap.size E kE (by omega) (by have := kE.size; have := bE.size; omega) ZE RE
   · go_simp
     have kv2 : Below u.heap.size u (v1.alloc (.cells #[.int .i64 0, .slice none 0 0, .slice none 0 0] 37)) := (kv1.alloc lv1 _)
     have bB : Hid (BlkAt (v1.alloc (.cells #[.int .i64 0, .slice none 0 0, .slice none 0 0] 37)) v1.heap.size [.int .i64 0, .slice none 0 0, .slice none 0 0]) := hidI (blk_new v1 [.int .i64 0, .slice none 0 0, .slice none 0 0] 37)
     have oB : Hid (OpnAt (v1.alloc (.cells #[.int .i64 0, .slice none 0 0, .slice none 0 0] 37)) v1.heap.size) := hidI (opn_new v1 #[.int .i64 0, .slice none 0 0, .slice none 0 0] 37)
     have tB : Hid (OfT (v1.alloc (.cells #[.int .i64 0, .slice none 0 0, .slice none 0 0] 37)) v1.heap.size 37) := hidI (ofT_new v1 #[.int .i64 0, .slice none 0 0, .slice none 0 0] 37)
     have hBl : v1.heap.size < (v1.alloc (.cells #[.int .i64 0, .slice none 0 0, .slice none 0 0] 37)).heap.size := by simp
     have kkv2 : Hid (Below v1.heap.size v1 (v1.alloc (.cells #[.int .i64 0, .slice none 0 0, .slice none 0 0] 37))) := hidI ((Below.refl _ _).alloc (Nat.le_refl _) _)
     have a0v2 := (kv2.cell (p := ⟨A, 0, none⟩) hAu).trans z0
     have a1v2 := (kv2.cell (p := ⟨A, 1, none⟩) hAu).trans z1
     have a2v2 := (kv2.cell (p := ⟨A, 2, none⟩) hAu).trans z2
     have a3v2 := (kv2.cell (p := ⟨lb, 0, none⟩) hlu).trans z3
     have a4v2 := (kv2.cell (p := ⟨lb, 1, none⟩) hlu).trans z4
     have lv2 := kv2.size
     clear hHeld
     refine hK.out _ _ ⟨a0v2, a1v2, a2v2, a3v2, a4v2⟩ (fun hHeld => ?_)
     clear hK K
     try simp only [Act.put, qA, qB, qC]
     generalize (v1.alloc (.cells #[.int .i64 0, .slice none 0 0, .slice none 0 0] 37)) = v2 at *
     refine wpAnyH_ready (rs := [3]) (by kernel_rfl) (by simp) ?_
     refine AllReadyH.cons (o := ⟨some 64, .call ⟨.value (.func 25), #[.tmp 61, .tmp 63], #[37, 9]⟩, 62, "l5_store.go:187", #[⟨0, .data⟩, ⟨2, .data⟩, ⟨2, .chain⟩], none⟩) rfl (fun K hK => ?_) AllReadyH.nil
     go_simp
     refine (h25 v2 kv2).mono ?_
     rintro e v3 ⟨⟨g', c', rfl, hrv3⟩, hcv3⟩
     go_wp2_with fail
     have kv3 : Below u.heap.size u v3 := kv2.trans (hcv3.mono lv2)
     have Rv3 := hidI hrv3
     clear hrv3
     have szv3 : v2.heap.size ≤ v3.heap.size := hcv3.size
     have a0v3 := (kv3.cell (p := ⟨A, 0, none⟩) hAu).trans z0
     have a1v3 := (kv3.cell (p := ⟨A, 1, none⟩) hAu).trans z1
     have a2v3 := (kv3.cell (p := ⟨A, 2, none⟩) hAu).trans z2
     have a3v3 := (kv3.cell (p := ⟨lb, 0, none⟩) hlu).trans z3
     have a4v3 := (kv3.cell (p := ⟨lb, 1, none⟩) hlu).trans z4
     have lv3 := kv3.size
     have bB2 := hidI (bB.out.below hcv3 hBl)
     have oB2 := hidI (oB.out.below hcv3 hBl)
     clear bB oB
     have bB := bB2
     have oB := oB2
     have tB2 := hidI (tB.out.below hcv3 hBl)
     clear tB
     have tB := tB2
     have RR := Rv3
     have HNB : Hid (∀ q, (Value.slice (some ⟨g', 0, none⟩) T'.length c').ownBlock = some q → q = v1.heap.size → False) := hidI (fun q hq e => absurd (ofT_one (own_ofT RR.out hq) (e ▸ tB.out)) (by decide))
     clear hHeld
     refine hK.out _ _ ⟨a0v3, a1v3, a2v3, a3v3, a4v3⟩ (fun hHeld => ?_)
     clear hK K
     try simp only [Act.put, qA, qB, qC]
     refine wpAnyH_take (i := 4) (oi := ⟨some 60, .move (.tmp 64), 62, "l5_store.go:187", #[⟨3, .data⟩], none⟩) (v := ?_) rfl (by kernel_rfl) (by kernel_rfl) (by kernel_rfl) (fun _ _ _ h => hQ _ _ _ _ _ h) (Or.inl ⟨by rfl, ?_⟩) (by assumption) ?_
     rotate_left
     · intro wq hSw
       (try dsimp only at hSw)
       go_simp
       try with_reducible rfl
     try simp only [Act.put, qA, qB, qC]
     refine wpAnyH_take (i := 5) (oi := ⟨some 65, .extract (.tmp 60) 0, 37, "l5_store.go:187", #[⟨4, .data⟩], none⟩) (v := ?_) rfl (by kernel_rfl) (by kernel_rfl) (by kernel_rfl) (fun _ _ _ h => hQ _ _ _ _ _ h) (Or.inl ⟨by rfl, ?_⟩) (by assumption) ?_
     rotate_left
     · intro wq hSw
       (try dsimp only at hSw)
       go_simp
       try with_reducible rfl
     try simp only [Act.put, qA, qB, qC]
     refine wpAnyH_take (i := 6) (oi := ⟨some 66, .extract (.tmp 60) 1, 4, "l5_store.go:187", #[⟨4, .data⟩, ⟨8, .gcOnly .lateStores⟩], none⟩) (v := ?_) rfl (by kernel_rfl) (by kernel_rfl) (by kernel_rfl) (fun _ _ _ h => hQ _ _ _ _ _ h) (Or.inl ⟨by rfl, ?_⟩) (by assumption) ?_
     rotate_left
     · intro wq hSw
       (try dsimp only at hSw)
       go_simp
       try with_reducible rfl
     try simp only [Act.put, qA, qB, qC]
     refine wpAnyH_ready (rs := [8]) (by kernel_rfl) (by simp) ?_
     refine AllReadyH.cons (o := ⟨none, .store 37 (.tmp 15) (.tmp 65), 0, "l5_store.go:187", #[⟨7, .data⟩, ⟨5, .data⟩, ⟨3, .chain⟩, ⟨0, .phase⟩, ⟨1, .phase⟩, ⟨2, .phase⟩, ⟨3, .phase⟩, ⟨4, .phase⟩, ⟨5, .phase⟩, ⟨6, .textOnly .lateStores⟩, ⟨7, .phase⟩], none⟩) rfl (fun K hK => ?_) AllReadyH.nil
     refine step_store_blk rfl 37 (.tmp 15) (.tmp 65) rfl v1.heap.size 0 rfl [.int .i64 W, .slice (some ⟨g', 0, none⟩) T'.length c', .slice a2 P.length c2] rfl (blk_some bB.out rfl) oB.out (by simp [Value.oneCell']) (by kernel_rfl) rfl ?_
     clear hHeld
     refine st_overB (old := [.int .i64 0, .slice none 0 0, .slice none 0 0]) (N := u.heap.size) rfl bB.out oB.out (by omega) ?_
     intro E bE ZE OE hE
     have kE : Below u.heap.size u E := kv3.trans bE
     have a0E := (kE.cell (p := ⟨A, 0, none⟩) hAu).trans z0
     have a1E := (kE.cell (p := ⟨A, 1, none⟩) hAu).trans z1
     have a2E := (kE.cell (p := ⟨A, 2, none⟩) hAu).trans z2
     have a3E := (kE.cell (p := ⟨lb, 0, none⟩) hlu).trans z3
     have a4E := (kE.cell (p := ⟨lb, 1, none⟩) hlu).trans z4
     have lE := kE.size
     have RE : E.ownsRow N 9 1 (.slice (some ⟨g', 0, none⟩) T'.length c') T'.length (T'.map Value.string) := own_keep' RR.out (fun q hq => hE q (fun e => HNB.out q hq e))
     refine hK.out _ _ ⟨a0E, a1E, a2E, a3E, a4E⟩ (fun hHeld => ?_)
     clear hK K
     try simp only [Act.put, qA, qB, qC]
     refine wpAnyH_take (i := 9) (oi := ⟨some 16, .assign (.tmp 66), 4, "l5_store.go:187", #[⟨6, .data⟩, ⟨8, .chain⟩, ⟨0, .phase⟩, ⟨1, .phase⟩, ⟨2, .phase⟩, ⟨3, .phase⟩, ⟨4, .phase⟩, ⟨5, .phase⟩, ⟨6, .phase⟩, ⟨7, .phase⟩, ⟨8, .phase⟩], none⟩) (v := ?_) rfl (by kernel_rfl) (by kernel_rfl) (by kernel_rfl) (fun _ _ _ h => hQ _ _ _ _ _ h) (Or.inl ⟨by rfl, ?_⟩) (by assumption) ?_
     rotate_left
     · intro wq hSw
       (try dsimp only at hSw)
       go_simp
       try with_reducible rfl
     try simp only [Act.put, qA, qB, qC]
     refine wpAnyH_done (by kernel_rfl) ?_ _
     clear hHeld
     exact hKK _ _ _ _ _ _ _ g' c' v1.heap.size E kE (by omega) (by have := kE.size; have := bE.size; omega) ZE RE
 · go_simp
   have kv1 : Below u.heap.size u ((u.alloc (.cells #[.int .i64 0, .slice none 0 0, .slice none 0 0] 37)).drew) := (ku.alloc lu _).drew
   have bB : Hid (BlkAt ((u.alloc (.cells #[.int .i64 0, .slice none 0 0, .slice none 0 0] 37)).drew) u.heap.size [.int .i64 0, .slice none 0 0, .slice none 0 0]) := hidI (blk_new u [.int .i64 0, .slice none 0 0, .slice none 0 0] 37)
   have oB : Hid (OpnAt ((u.alloc (.cells #[.int .i64 0, .slice none 0 0, .slice none 0 0] 37)).drew) u.heap.size) := hidI (opn_new u #[.int .i64 0, .slice none 0 0, .slice none 0 0] 37)
   have tB : Hid (OfT ((u.alloc (.cells #[.int .i64 0, .slice none 0 0, .slice none 0 0] 37)).drew) u.heap.size 37) := hidI (ofT_new u #[.int .i64 0, .slice none 0 0, .slice none 0 0] 37)
   have hBl : u.heap.size < ((u.alloc (.cells #[.int .i64 0, .slice none 0 0, .slice none 0 0] 37)).drew).heap.size := by simp
   have kkv1 : Hid (Below u.heap.size u ((u.alloc (.cells #[.int .i64 0, .slice none 0 0, .slice none 0 0] 37)).drew)) := hidI (((Below.refl _ _).alloc (Nat.le_refl _) _).drew)
   have a0v1 := (kv1.cell (p := ⟨A, 0, none⟩) hAu).trans z0
   have a1v1 := (kv1.cell (p := ⟨A, 1, none⟩) hAu).trans z1
   have a2v1 := (kv1.cell (p := ⟨A, 2, none⟩) hAu).trans z2
   have a3v1 := (kv1.cell (p := ⟨lb, 0, none⟩) hlu).trans z3
   have a4v1 := (kv1.cell (p := ⟨lb, 1, none⟩) hlu).trans z4
   have lv1 := kv1.size
   clear hHeld
   refine hK.out _ _ ⟨a0v1, a1v1, a2v1, a3v1, a4v1⟩ (fun hHeld => ?_)
   clear hK K
   try simp only [Act.put, qA, qB, qC]
   generalize ((u.alloc (.cells #[.int .i64 0, .slice none 0 0, .slice none 0 0] 37)).drew) = v1 at *
   refine wpAnyH_ready (rs := [2]) (by kernel_rfl) (by simp) ?_
   refine AllReadyH.cons (o := ⟨some 63, .call ⟨.value (.func 26), #[.tmp 62], #[45]⟩, 9, "l5_store.go:187", #[⟨1, .data⟩], none⟩) rfl (fun K hK => ?_) AllReadyH.nil
   go_simp
   refine (c26n cd tx fm _ HF.out htx).mono ?_
   rintro e v2 ⟨rfl, hcv2⟩
   go_wp2_with fail
   have kv2 : Below u.heap.size u v2 := kv1.trans (hcv2.mono lv1)
   have szv2 : v1.heap.size ≤ v2.heap.size := hcv2.size
   have a0v2 := (kv2.cell (p := ⟨A, 0, none⟩) hAu).trans z0
   have a1v2 := (kv2.cell (p := ⟨A, 1, none⟩) hAu).trans z1
   have a2v2 := (kv2.cell (p := ⟨A, 2, none⟩) hAu).trans z2
   have a3v2 := (kv2.cell (p := ⟨lb, 0, none⟩) hlu).trans z3
   have a4v2 := (kv2.cell (p := ⟨lb, 1, none⟩) hlu).trans z4
   have lv2 := kv2.size
   clear hHeld
   refine hK.out _ _ ⟨a0v2, a1v2, a2v2, a3v2, a4v2⟩ (fun hHeld => ?_)
   clear hK K
   try simp only [Act.put, qA, qB, qC]
   have hcc := hcv2
   refine wpAnyH_ready (rs := [3]) (by kernel_rfl) (by simp) ?_
   refine AllReadyH.cons (o := ⟨some 64, .call ⟨.value (.func 25), #[.tmp 61, .tmp 63], #[37, 9]⟩, 62, "l5_store.go:187", #[⟨0, .data⟩, ⟨2, .data⟩, ⟨2, .chain⟩], none⟩) rfl (fun K hK => ?_) AllReadyH.nil
   go_simp
   refine (h25 v2 kv2).mono ?_
   rintro e v3 ⟨⟨g', c', rfl, hrv3⟩, hcv3⟩
   go_wp2_with fail
   have kv3 : Below u.heap.size u v3 := kv2.trans (hcv3.mono lv2)
   have Rv3 := hidI hrv3
   clear hrv3
   have szv3 : v2.heap.size ≤ v3.heap.size := hcv3.size
   have a0v3 := (kv3.cell (p := ⟨A, 0, none⟩) hAu).trans z0
   have a1v3 := (kv3.cell (p := ⟨A, 1, none⟩) hAu).trans z1
   have a2v3 := (kv3.cell (p := ⟨A, 2, none⟩) hAu).trans z2
   have a3v3 := (kv3.cell (p := ⟨lb, 0, none⟩) hlu).trans z3
   have a4v3 := (kv3.cell (p := ⟨lb, 1, none⟩) hlu).trans z4
   have lv3 := kv3.size
   have bB2 := hidI ((bB.out.below hcv2 hBl).below hcv3 (by have := hcv2.size; omega))
   have oB2 := hidI ((oB.out.below hcv2 hBl).below hcv3 (by have := hcv2.size; omega))
   clear bB oB
   have bB := bB2
   have oB := oB2
   have tB2 := hidI ((tB.out.below hcv2 hBl).below hcv3 (by have := hcv2.size; omega))
   clear tB
   have tB := tB2
   have RR := Rv3
   have HNB : Hid (∀ q, (Value.slice (some ⟨g', 0, none⟩) T'.length c').ownBlock = some q → q = u.heap.size → False) := hidI (fun q hq e => absurd (ofT_one (own_ofT RR.out hq) (e ▸ tB.out)) (by decide))
   clear hHeld
   refine hK.out _ _ ⟨a0v3, a1v3, a2v3, a3v3, a4v3⟩ (fun hHeld => ?_)
   clear hK K
   try simp only [Act.put, qA, qB, qC]
   refine wpAnyH_take (i := 4) (oi := ⟨some 60, .move (.tmp 64), 62, "l5_store.go:187", #[⟨3, .data⟩], none⟩) (v := ?_) rfl (by kernel_rfl) (by kernel_rfl) (by kernel_rfl) (fun _ _ _ h => hQ _ _ _ _ _ h) (Or.inl ⟨by rfl, ?_⟩) (by assumption) ?_
   rotate_left
   · intro wq hSw
     (try dsimp only at hSw)
     go_simp
     try with_reducible rfl
   try simp only [Act.put, qA, qB, qC]
   refine wpAnyH_take (i := 5) (oi := ⟨some 65, .extract (.tmp 60) 0, 37, "l5_store.go:187", #[⟨4, .data⟩], none⟩) (v := ?_) rfl (by kernel_rfl) (by kernel_rfl) (by kernel_rfl) (fun _ _ _ h => hQ _ _ _ _ _ h) (Or.inl ⟨by rfl, ?_⟩) (by assumption) ?_
   rotate_left
   · intro wq hSw
     (try dsimp only at hSw)
     go_simp
     try with_reducible rfl
   try simp only [Act.put, qA, qB, qC]
   refine wpAnyH_take (i := 6) (oi := ⟨some 66, .extract (.tmp 60) 1, 4, "l5_store.go:187", #[⟨4, .data⟩, ⟨8, .gcOnly .lateStores⟩], none⟩) (v := ?_) rfl (by kernel_rfl) (by kernel_rfl) (by kernel_rfl) (fun _ _ _ h => hQ _ _ _ _ _ h) (Or.inl ⟨by rfl, ?_⟩) (by assumption) ?_
   rotate_left
   · intro wq hSw
     (try dsimp only at hSw)
     go_simp
     try with_reducible rfl
   try simp only [Act.put, qA, qB, qC]
   refine wpAnyH_ready (rs := [8]) (by kernel_rfl) (by simp) ?_
   refine AllReadyH.cons (o := ⟨none, .store 37 (.tmp 15) (.tmp 65), 0, "l5_store.go:187", #[⟨7, .data⟩, ⟨5, .data⟩, ⟨3, .chain⟩, ⟨0, .phase⟩, ⟨1, .phase⟩, ⟨2, .phase⟩, ⟨3, .phase⟩, ⟨4, .phase⟩, ⟨5, .phase⟩, ⟨6, .textOnly .lateStores⟩, ⟨7, .phase⟩], none⟩) rfl (fun K hK => ?_) AllReadyH.nil
   refine step_store_blk rfl 37 (.tmp 15) (.tmp 65) rfl u.heap.size 0 rfl [.int .i64 W, .slice (some ⟨g', 0, none⟩) T'.length c', .slice a2 P.length c2] rfl (blk_some bB.out rfl) oB.out (by simp [Value.oneCell']) (by kernel_rfl) rfl ?_
   clear hHeld
   refine st_overB (old := [.int .i64 0, .slice none 0 0, .slice none 0 0]) (N := u.heap.size) rfl bB.out oB.out (by omega) ?_
   intro E bE ZE OE hE
   have kE : Below u.heap.size u E := kv3.trans bE
   have a0E := (kE.cell (p := ⟨A, 0, none⟩) hAu).trans z0
   have a1E := (kE.cell (p := ⟨A, 1, none⟩) hAu).trans z1
   have a2E := (kE.cell (p := ⟨A, 2, none⟩) hAu).trans z2
   have a3E := (kE.cell (p := ⟨lb, 0, none⟩) hlu).trans z3
   have a4E := (kE.cell (p := ⟨lb, 1, none⟩) hlu).trans z4
   have lE := kE.size
   have RE : E.ownsRow N 9 1 (.slice (some ⟨g', 0, none⟩) T'.length c') T'.length (T'.map Value.string) := own_keep' RR.out (fun q hq => hE q (fun e => HNB.out q hq e))
   refine hK.out _ _ ⟨a0E, a1E, a2E, a3E, a4E⟩ (fun hHeld => ?_)
   clear hK K
   try simp only [Act.put, qA, qB, qC]
   refine wpAnyH_take (i := 9) (oi := ⟨some 16, .assign (.tmp 66), 4, "l5_store.go:187", #[⟨6, .data⟩, ⟨8, .chain⟩, ⟨0, .phase⟩, ⟨1, .phase⟩, ⟨2, .phase⟩, ⟨3, .phase⟩, ⟨4, .phase⟩, ⟨5, .phase⟩, ⟨6, .phase⟩, ⟨7, .phase⟩, ⟨8, .phase⟩], none⟩) (v := ?_) rfl (by kernel_rfl) (by kernel_rfl) (by kernel_rfl) (fun _ _ _ h => hQ _ _ _ _ _ h) (Or.inl ⟨by rfl, ?_⟩) (by assumption) ?_
   rotate_left
   · intro wq hSw
     (try dsimp only at hSw)
     go_simp
     try with_reducible rfl
   try simp only [Act.put, qA, qB, qC]
   refine wpAnyH_done (by kernel_rfl) ?_ _
   clear hHeld
   exact hKK _ _ _ _ _ _ _ g' c' u.heap.size E kE (by omega) (by have := kE.size; have := bE.size; omega) ZE RE
end Go.Proofs.YtkhlekmicpmpkaaGreatDoor
