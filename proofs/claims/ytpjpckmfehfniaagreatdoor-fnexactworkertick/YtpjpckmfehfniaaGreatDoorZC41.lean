import Derived.Test.YtpjpckmfehfniaaGreatDoorH1
import Derived.Test.YtpjpckmfehfniaaGreatDoorZC10
import Derived.Test.YtpjpckmfehfniaaGreatDoorZC11
import Derived.Test.YtpjpckmfehfniaaGreatDoorZC15
import Derived.Test.YtpjpckmfehfniaaGreatDoorNI
namespace Go.Proofs.YtpjpckmfehfniaaGreatDoor
open Go.RowKit
set_option maxHeartbeats 8000000 in
set_option maxRecDepth 100000 in
theorem c139 (x : M.W19) (B b n : Nat) (v : Value) (w : World) (Z : M.BlkAt w B [.int .i64 x.no, .bool x.up, .bool x.has, .int .i64 x.of.kd, .int .i64 x.of.to, .int .i64 x.of.fr, .int .i64 x.of.ep, .int .i64 x.of.ed, .string x.of.km.nm, .string x.of.km.tl, .string x.of.km.ar, .slice (some ⟨b, 0, none⟩) x.of.ls.length n, .int .i64 x.of.ct, .bool x.of.tn.over, .int .i64 x.of.tn.cd, .string x.of.tn.tx, .bool x.of.tn.has, .string x.of.tn.nm, .int .i64 x.of.tn.st, .int .i64 0, .int .i64 0, .int .i64 0, .int .i64 0, .int .i64 0, .string ⟨#[]⟩, .string ⟨#[]⟩, .string ⟨#[]⟩, .slice none 0 0, .int .i64 0, .bool false, .int .i64 0, .string ⟨#[]⟩, .bool false, .string ⟨#[]⟩, .int .i64 0, v]) (f : M.OpnAt w B) :
 Calls Tryz.prog 139 #[.pointer (some ⟨B, 0, none⟩)] w fun e w' => e = .returned .nilFunc ∧ M.BlkAt w' B [.int .i64 x.no, .bool x.up, .bool false, .int .i64 0, .int .i64 0, .int .i64 0, .int .i64 0, .int .i64 0, .string ⟨#[]⟩, .string ⟨#[]⟩, .string ⟨#[]⟩, .slice none 0 0, .int .i64 0, .bool false, .int .i64 0, .string ⟨#[]⟩, .bool false, .string ⟨#[]⟩, .int .i64 0, .int .i64 0, .int .i64 0, .int .i64 0, .int .i64 0, .int .i64 0, .string ⟨#[]⟩, .string ⟨#[]⟩, .string ⟨#[]⟩, .slice none 0 0, .int .i64 0, .bool false, .int .i64 0, .string ⟨#[]⟩, .bool false, .string ⟨#[]⟩, .int .i64 0, v] ∧ M.OpnAt w' B ∧ M.But B w w' := by
 have a2 := Z 2 _ rfl
 have f2 := f 2
 have Z1 : M.BlkAt (w.setCell ⟨B, 2, none⟩ (.bool false)) B [.int .i64 x.no, .bool x.up, .bool false, .int .i64 x.of.kd, .int .i64 x.of.to, .int .i64 x.of.fr, .int .i64 x.of.ep, .int .i64 x.of.ed, .string x.of.km.nm, .string x.of.km.tl, .string x.of.km.ar, .slice (some ⟨b, 0, none⟩) x.of.ls.length n, .int .i64 x.of.ct, .bool x.of.tn.over, .int .i64 x.of.tn.cd, .string x.of.tn.tx, .bool x.of.tn.has, .string x.of.tn.nm, .int .i64 x.of.tn.st, .int .i64 0, .int .i64 0, .int .i64 0, .int .i64 0, .int .i64 0, .string ⟨#[]⟩, .string ⟨#[]⟩, .string ⟨#[]⟩, .slice none 0 0, .int .i64 0, .bool false, .int .i64 0, .string ⟨#[]⟩, .bool false, .string ⟨#[]⟩, .int .i64 0, v] := Z.set 2 (.bool false) (by simp)
 have f1 : M.OpnAt (w.setCell ⟨B, 2, none⟩ (.bool false)) B := f.set _ _
 have hb1 : M.But B w (w.setCell ⟨B, 2, none⟩ (.bool false)) := (M.But.refl _ _).setCell _ _
 have hSome : ∀ i, i < ([.int .i64 0, .int .i64 0, .int .i64 0, .int .i64 0, .int .i64 0, .string ⟨#[]⟩, .string ⟨#[]⟩, .string ⟨#[]⟩, .slice none 0 0, .int .i64 0, .bool false, .int .i64 0, .string ⟨#[]⟩, .bool false, .string ⟨#[]⟩, .int .i64 0] : List Value).length → ((w.setCell ⟨B, 2, none⟩ (.bool false)).cell? ⟨B, 3 + i, none⟩).isSome = true := fun i hi => by
  have hz : 3 + i < ([.int .i64 x.no, .bool x.up, .bool false, .int .i64 x.of.kd, .int .i64 x.of.to, .int .i64 x.of.fr, .int .i64 x.of.ep, .int .i64 x.of.ed, .string x.of.km.nm, .string x.of.km.tl, .string x.of.km.ar, .slice (some ⟨b, 0, none⟩) x.of.ls.length n, .int .i64 x.of.ct, .bool x.of.tn.over, .int .i64 x.of.tn.cd, .string x.of.tn.tx, .bool x.of.tn.has, .string x.of.tn.nm, .int .i64 x.of.tn.st, .int .i64 0, .int .i64 0, .int .i64 0, .int .i64 0, .int .i64 0, .string ⟨#[]⟩, .string ⟨#[]⟩, .string ⟨#[]⟩, .slice none 0 0, .int .i64 0, .bool false, .int .i64 0, .string ⟨#[]⟩, .bool false, .string ⟨#[]⟩, .int .i64 0, v] : List Value).length := by simp at hi; simp; omega
  rw [Z1 (3 + i) _ (List.getElem?_eq_getElem hz)]
  rfl
 have Z3 : M.BlkAt (M.fill (w.setCell ⟨B, 2, none⟩ (.bool false)) B 3 [.int .i64 0, .int .i64 0, .int .i64 0, .int .i64 0, .int .i64 0, .string ⟨#[]⟩, .string ⟨#[]⟩, .string ⟨#[]⟩, .slice none 0 0, .int .i64 0, .bool false, .int .i64 0, .string ⟨#[]⟩, .bool false, .string ⟨#[]⟩, .int .i64 0]) B [.int .i64 x.no, .bool x.up, .bool false, .int .i64 0, .int .i64 0, .int .i64 0, .int .i64 0, .int .i64 0, .string ⟨#[]⟩, .string ⟨#[]⟩, .string ⟨#[]⟩, .slice none 0 0, .int .i64 0, .bool false, .int .i64 0, .string ⟨#[]⟩, .bool false, .string ⟨#[]⟩, .int .i64 0, .int .i64 0, .int .i64 0, .int .i64 0, .int .i64 0, .int .i64 0, .string ⟨#[]⟩, .string ⟨#[]⟩, .string ⟨#[]⟩, .slice none 0 0, .int .i64 0, .bool false, .int .i64 0, .string ⟨#[]⟩, .bool false, .string ⟨#[]⟩, .int .i64 0, v] := M.BlkAt.fill [.int .i64 0, .int .i64 0, .int .i64 0, .int .i64 0, .int .i64 0, .string ⟨#[]⟩, .string ⟨#[]⟩, .string ⟨#[]⟩, .slice none 0 0, .int .i64 0, .bool false, .int .i64 0, .string ⟨#[]⟩, .bool false, .string ⟨#[]⟩, .int .i64 0] [.int .i64 x.no, .bool x.up, .bool false] [.int .i64 x.of.kd, .int .i64 x.of.to, .int .i64 x.of.fr, .int .i64 x.of.ep, .int .i64 x.of.ed, .string x.of.km.nm, .string x.of.km.tl, .string x.of.km.ar, .slice (some ⟨b, 0, none⟩) x.of.ls.length n, .int .i64 x.of.ct, .bool x.of.tn.over, .int .i64 x.of.tn.cd, .string x.of.tn.tx, .bool x.of.tn.has, .string x.of.tn.nm, .int .i64 x.of.tn.st] [.int .i64 0, .int .i64 0, .int .i64 0, .int .i64 0, .int .i64 0, .string ⟨#[]⟩, .string ⟨#[]⟩, .string ⟨#[]⟩, .slice none 0 0, .int .i64 0, .bool false, .int .i64 0, .string ⟨#[]⟩, .bool false, .string ⟨#[]⟩, .int .i64 0, v] 3 Z1 rfl rfl
 have f3 : M.OpnAt (M.fill (w.setCell ⟨B, 2, none⟩ (.bool false)) B 3 [.int .i64 0, .int .i64 0, .int .i64 0, .int .i64 0, .int .i64 0, .string ⟨#[]⟩, .string ⟨#[]⟩, .string ⟨#[]⟩, .slice none 0 0, .int .i64 0, .bool false, .int .i64 0, .string ⟨#[]⟩, .bool false, .string ⟨#[]⟩, .int .i64 0]) B := M.OpnAt.fill _ _ f1
 have hb3 : M.But B w (M.fill (w.setCell ⟨B, 2, none⟩ (.bool false)) B 3 [.int .i64 0, .int .i64 0, .int .i64 0, .int .i64 0, .int .i64 0, .string ⟨#[]⟩, .string ⟨#[]⟩, .string ⟨#[]⟩, .slice none 0 0, .int .i64 0, .bool false, .int .i64 0, .string ⟨#[]⟩, .bool false, .string ⟨#[]⟩, .int .i64 0]) := M.but_fill _ _ hb1
 clear Z f
 go_enter Tryz.func139, Tryz.ntmps139
 have hmark : True := trivial
 go_wp2_with (refine M.wpList_store_blk rfl 48 _ _ rfl B 3 rfl [.int .i64 0, .int .i64 0, .int .i64 0, .int .i64 0, .int .i64 0, .string ⟨#[]⟩, .string ⟨#[]⟩, .string ⟨#[]⟩, .slice none 0 0, .int .i64 0, .bool false, .int .i64 0, .string ⟨#[]⟩, .bool false, .string ⟨#[]⟩, .int .i64 0] rfl hSome f1 (by simp [Value.oneCell']) (by kernel_rfl) rfl ?_; revert hmark)
 try intro _
 clear hSome f1 Z1
 generalize (M.fill (w.setCell ⟨B, 2, none⟩ (.bool false)) B 3 [.int .i64 0, .int .i64 0, .int .i64 0, .int .i64 0, .int .i64 0, .string ⟨#[]⟩, .string ⟨#[]⟩, .string ⟨#[]⟩, .slice none 0 0, .int .i64 0, .bool false, .int .i64 0, .string ⟨#[]⟩, .bool false, .string ⟨#[]⟩, .int .i64 0]) = U at *
 try go_wp2
 go_ret
 exact ⟨rfl, Z3, f3, hb3⟩
set_option maxHeartbeats 8000000 in
set_option maxRecDepth 100000 in
theorem c48 (x : M.W19) (B b n : Nat) (v : Value) (w : World) (Z : M.BlkAt w B [.int .i64 x.no, .bool x.up, .bool x.has, .int .i64 x.of.kd, .int .i64 x.of.to, .int .i64 x.of.fr, .int .i64 x.of.ep, .int .i64 x.of.ed, .string x.of.km.nm, .string x.of.km.tl, .string x.of.km.ar, .slice (some ⟨b, 0, none⟩) x.of.ls.length n, .int .i64 x.of.ct, .bool x.of.tn.over, .int .i64 x.of.tn.cd, .string x.of.tn.tx, .bool x.of.tn.has, .string x.of.tn.nm, .int .i64 x.of.tn.st, .int .i64 0, .int .i64 0, .int .i64 0, .int .i64 0, .int .i64 0, .string ⟨#[]⟩, .string ⟨#[]⟩, .string ⟨#[]⟩, .slice none 0 0, .int .i64 0, .bool false, .int .i64 0, .string ⟨#[]⟩, .bool false, .string ⟨#[]⟩, .int .i64 0, v]) :
 Calls Tryz.prog 48 #[.pointer (some ⟨B, 0, none⟩)] w fun e w' => e = .returned (nxt x.up 95 B) ∧ Below w.heap.size w w' := by
 have c1 := Z 1 _ rfl
 have hcase : x.up = true ∨ x.up = false := by cases x.up <;> simp
 clear Z
 rcases hcase with hh | hh
 · rw [hh] at c1
   have HH : Hid (x.up = true) := hh
   clear hh
   go_enter Tryz.func48, Tryz.ntmps48
   go_wp2
   try go_region
   all_goals (try go_wp2)
   all_goals go_ret
   all_goals exact ⟨by rw [HH.out]; rfl, Below.refl _ _⟩
 · rw [hh] at c1
   have HH : Hid (x.up = false) := hh
   clear hh
   go_enter Tryz.func48, Tryz.ntmps48
   go_wp2
   try go_region
   all_goals (try go_wp2)
   all_goals go_ret
   all_goals exact ⟨by rw [HH.out]; rfl, Below.refl _ _⟩
end Go.Proofs.YtpjpckmfehfniaaGreatDoor
namespace Go.Proofs.YtpjpckmfehfniaaGreatDoor
open Go.RowKit
open Classical in
noncomputable def readT (l : List UInt8) : List I3 × Bool := if h : ∃ p : List I3 × Bool, IsRead l p.1 p.2 then h.choose else ([], false)
theorem readT_of {l : List UInt8} {is : List I3} {ok : Bool} (h : IsRead l is ok) : readT l = (is, ok) := by
 have hx : ∃ p : List I3 × Bool, IsRead l p.1 p.2 := ⟨(is, ok), h⟩
 have e : readT l = hx.choose := by unfold readT; exact dif_pos hx
 obtain ⟨e1, e2⟩ := isRead_one hx.choose_spec h
 rw [e]
 exact Prod.ext e1 e2
structure RS where
 has : Bool
 T : List I3
 reps : List R2
def rs0 : RS := ⟨false, [], []⟩
noncomputable def firstR (tl ar : ByteArray) (l : List UInt8) : TN := if (readT l).2 = true then nextT (readT l).1 ar [] else overT 7 tl 0
noncomputable def nextR (tl ar : ByteArray) (s : RS) (r : R2) : TN × RS :=
 if s.has = true then (nextT s.T ar (s.reps ++ [r]), ⟨true, s.T, s.reps ++ [r]⟩)
 else if r.code = 0 then (firstR tl ar r.tx.data.toList, ⟨(readT r.tx.data.toList).2, (readT r.tx.data.toList).1, s.reps⟩)
 else if r.code = 4 then (overT 4 tl 0, s) else (overT 5 tl 0, s)
theorem read_small {l : List UInt8} {is : List I3} {ok : Bool} (h : IsRead l is ok) : is.length ≤ 40 ∧ ∀ i, (is.getD i i3z).tx.size ≤ 300 := by
 cases ok
 · rw [(h.2 rfl).1]; exact ⟨by simp, fun i => by simp [i3z, ByteArray.size]⟩
 · have hk := (h.1 rfl).1
   unfold okT at hk
   simp only [Bool.and_eq_true, decide_eq_true_eq] at hk
   refine ⟨hk.1.2, fun i => ?_⟩
   rcases Nat.lt_or_ge i is.length with h' | h'
   · have := List.all_eq_true.1 hk.2 (is.getD i i3z) (by simp [List.getD, h'])
     unfold okI at this
     simp only [Bool.and_eq_true, decide_eq_true_eq] at this
     omega
   · have e : is.getD i i3z = i3z := by simp [List.getD, List.getElem?_eq_none h']
     rw [e]; simp [i3z, ByteArray.size]
theorem readT_is (l : List UInt8) : readT l = ([], false) ∨ IsRead l (readT l).1 (readT l).2 := by
 unfold readT
 split
 · rename_i h; exact .inr h.choose_spec
 · exact .inl rfl
theorem readT_small (l : List UInt8) : (readT l).1.length ≤ 40 ∧ ∀ i, ((readT l).1.getD i i3z).tx.size ≤ 300 := by
 rcases readT_is l with h | h
 · rw [h]; exact ⟨by simp, fun i => by simp [i3z, ByteArray.size]⟩
 · exact read_small h
structure RSOk (s : RS) : Prop where
 tl : s.T.length ≤ 40
 ts : ∀ i, (s.T.getD i i3z).tx.size ≤ 300
 rs : ∀ i, (s.reps.getD i r2z).tx.size ≤ 1048576
theorem rs0_ok : RSOk rs0 := ⟨by simp [rs0], fun i => by simp [rs0, i3z, ByteArray.size], fun i => by simp [rs0, r2z, ByteArray.size]⟩
theorem snoc_small {rs : List R2} {x : R2} {M : Nat} (h : ∀ i, (rs.getD i r2z).tx.size ≤ M) (hx : x.tx.size ≤ M) (i : Nat) : ((rs ++ [x]).getD i r2z).tx.size ≤ M := by
 rcases Nat.lt_trichotomy i rs.length with h' | h' | h'
 · have e : (rs ++ [x]).getD i r2z = rs.getD i r2z := by simp [List.getD, List.getElem?_append_left h']
   rw [e]; exact h i
 · have e : (rs ++ [x]).getD i r2z = x := by subst h'; simp [List.getD]
   rw [e]; exact hx
 · have e : (rs ++ [x]).getD i r2z = r2z := by simp [List.getD, List.getElem?_eq_none (show (rs ++ [x]).length ≤ i by simp; omega)]
   rw [e]; exact Nat.zero_le _
theorem next_ok {tl ar : ByteArray} {s : RS} {r : R2} (h : RSOk s) (hr : r.tx.size ≤ 1048576) : RSOk (nextR tl ar s r).2 := by
 unfold nextR
 split
 · exact ⟨h.tl, h.ts, snoc_small h.rs hr⟩
 · split
   · exact ⟨(readT_small _).1, (readT_small _).2, h.rs⟩
   · split <;> exact h
theorem next_len {tl ar : ByteArray} {s : RS} {r : R2} : (nextR tl ar s r).2.reps.length ≤ s.reps.length + 1 := by
 unfold nextR
 split
 · simp
 · split
   · simp
   · split <;> simp
def resCells (rs : List R2) : List Value := rs.flatMap fun x => [.int .i64 x.code, .string x.tx]
theorem resCells_snoc (rs : List R2) (x : R2) : resCells (rs ++ [x]) = resCells rs ++ [.int .i64 x.code, .string x.tx] := by simp [resCells]
theorem resCells_get (rs : List R2) (i : Nat) (h : i < rs.length) : (resCells rs)[i * 2]? = some (.int .i64 (rs.getD i r2z).code) ∧ (resCells rs)[i * 2 + 1]? = some (.string (rs.getD i r2z).tx) := by
 induction rs generalizing i with
 | nil => simp at h
 | cons x r ih =>
   cases i with
   | zero => exact ⟨rfl, rfl⟩
   | succ i =>
     have := ih i (by simpa using h)
     have e : ∀ j, (resCells (x :: r))[(i + 1) * 2 + j]? = (resCells r)[i * 2 + j]? := fun j => by
      show ([Value.int .i64 x.code, .string x.tx] ++ resCells r)[(i + 1) * 2 + j]? = _
      rw [List.getElem?_append_right (by simp; omega)]
      congr 1
      simp; omega
     have e0 := e 0
     simp only [Nat.add_zero] at e0
     rw [e0, e 1]
     exact this
theorem own2_form {w : World} {base : Nat} {v : Value} {rs : List R2} (h : w.ownsRow base 28 2 v rs.length (resCells rs)) : ∃ a cap, v = .slice a rs.length cap ∧ ResAt w a rs := by
 have h' := h
 rcases h.2 with ⟨hv, h0⟩ | ⟨g, cap, cur, hv, hg, hh, _⟩
 · exact ⟨none, 0, by rw [hv, h0], .inl (List.length_eq_zero_iff.1 h0)⟩
 · refine ⟨some ⟨g, 0, none⟩, cap, hv, ?_⟩
   subst hv
   refine .inr ⟨g, 0, rfl, blk_lt hh, fun i hi => ?_⟩
   obtain ⟨e0, e1⟩ := resCells_get rs i hi
   rw [Nat.zero_add, h'.cellAt _ (by omega), h'.cellAt _ (by omega)]
   exact ⟨e0, e1⟩
structure RunW (base b0 b1 b2 b3 : Nat) (u : World) (nm tl ar : ByteArray) (s : RS) (v1 v2 : Value) : Prop where
 le0 : base ≤ b0
 le1 : base ≤ b1
 le2 : base ≤ b2
 le3 : base ≤ b3
 h0 : u.heap[b0]? = some (.cells #[.bool s.has] 4 (0, 0))
 h1 : u.heap[b1]? = some (.cells #[v1] 71 (0, 0))
 h2 : u.heap[b2]? = some (.cells #[v2] 74 (0, 0))
 h3 : u.heap[b3]? = some (.cells #[.string nm, .string tl, .string ar] 32 (0, 0))
 o1 : u.ownsRow base 28 2 v1 s.reps.length (resCells s.reps)
 o2 : u.ownsRow base 122 3 v2 s.T.length (insCells s.T)
theorem blk_ne {u : World} {a b : Nat} {x y : Array Value} {t t' : TypeId} {p q : Nat × Nat} (h : u.heap[a]? = some (.cells x t p)) (k : u.heap[b]? = some (.cells y t' q)) (hne : t ≠ t') : a ≠ b := fun e => by
 subst e; rw [h] at k; injection k with k; injection k with _ k _; exact hne k
theorem RunW.below {base b0 b1 b2 b3 : Nat} {u u' : World} {nm tl ar : ByteArray} {s : RS} {v1 v2 : Value} (h : RunW base b0 b1 b2 b3 u nm tl ar s v1 v2) (hb : Below u.heap.size u u') : RunW base b0 b1 b2 b3 u' nm tl ar s v1 v2 :=
 ⟨h.le0, h.le1, h.le2, h.le3, (hb.block _ (blk_lt h.h0)).trans h.h0, (hb.block _ (blk_lt h.h1)).trans h.h1, (hb.block _ (blk_lt h.h2)).trans h.h2, (hb.block _ (blk_lt h.h3)).trans h.h3, ownsRow_below h.o1 hb, ownsRow_below h.o2 hb⟩
end Go.Proofs.YtpjpckmfehfniaaGreatDoor
namespace Go.Proofs.YtpjpckmfehfniaaGreatDoor
open Go.RowKit
theorem c91 (c : Int) (t : ByteArray) (w : World) :
 Calls Tryz.prog 91 #[.int .i64 c, .string t] w fun e w' => e = .returned (.agg #[.bool true, .int .i64 c, .string t, .bool false, .string ⟨#[]⟩, .int .i64 0]) ∧ Below w.heap.size w w' := by
 go_enter Tryz.func91, Tryz.ntmps91
 go_wp2
 refine bodyPost_ret (v := .agg #[.bool true, .int .i64 c, .string t, .bool false, .string ⟨#[]⟩, .int .i64 0]) (by simp [results, Tryz.results91, go_sem]) rfl ⟨rfl, ?_⟩
 exact (Below.refl _ _).alloc (Nat.le_refl _) _
theorem c39 (nm tl ar : ByteArray) (w : World) :
 Calls Tryz.prog 39 #[.agg #[.string nm, .string tl, .string ar]] w fun e w' => e = .returned (.agg #[.bool false, .int .i64 0, .string ⟨#[]⟩, .bool false, .string tl, .int .i64 0]) ∧ Below w.heap.size w w' := by
 go_enter Tryz.func39, Tryz.ntmps39
 go_wp2
 refine bodyPost_ret (v := .agg #[.bool false, .int .i64 0, .string ⟨#[]⟩, .bool false, .string tl, .int .i64 0]) (by simp [results, Tryz.results39, go_sem]) rfl ⟨rfl, ?_⟩
 exact ((Below.refl _ _).alloc (Nat.le_refl _) _).alloc (by simp) _
theorem c40 (nm tl ar : ByteArray) (w : World) :
 Calls Tryz.prog 40 #[.agg #[.string nm, .string tl, .string ar]] w fun e w' => ∃ b0 b1 b2 b3, e = .returned (.func (.func 88) #[] #[.pointer (some ⟨b0, 0, none⟩), .pointer (some ⟨b1, 0, none⟩), .pointer (some ⟨b2, 0, none⟩), .pointer (some ⟨b3, 0, none⟩)]) ∧ RunW w.heap.size b0 b1 b2 b3 w' nm tl ar rs0 (.slice none 0 0) (.slice none 0 0) ∧ Below w.heap.size w w' := by
 go_enter Tryz.func40, Tryz.ntmps40
 go_wp2
 go_ret
 refine ⟨w.heap.size + 1 + 1 + 1, w.heap.size + 1 + 1, w.heap.size + 1, w.heap.size, rfl, ⟨by omega, by omega, by omega, by omega, ?_, ?_, ?_, ?_, World.ownsRow_nil _ _ _ _, World.ownsRow_nil _ _ _ _⟩, ?_⟩
 · exact alloc_new (by simp) _
 · rw [Lib.alloc_old _ _ _ (by simp)]; exact alloc_new (by simp) _
 · rw [Lib.alloc_old _ _ _ (by first | (simp; done) | (simp; omega)), Lib.alloc_old _ _ _ (by simp)]; exact alloc_new (by simp) _
 · rw [Lib.alloc_old _ _ _ (by first | (simp; done) | (simp; omega)), Lib.alloc_old _ _ _ (by first | (simp; done) | (simp; omega)), Lib.alloc_old _ _ _ (by simp)]; exact alloc_new (by simp) _
 · exact ((((Below.refl _ _).alloc (Nat.le_refl _) _).alloc (by simp) _).alloc (by first | (simp; done) | (simp; omega)) _).alloc (by first | (simp; done) | (simp; omega)) _
end Go.Proofs.YtpjpckmfehfniaaGreatDoor
namespace Go.Proofs.YtpjpckmfehfniaaGreatDoor
open Go.RowKit
theorem own_block {w : World} {base : Nat} {e : TypeId} {size : Nat} {v : Value} {n : Nat} {xs : List Value} (h : w.ownsRow base e size v n xs) {k : Nat} (hk : v.ownBlock = some k) : base ≤ k ∧ ∃ cur, w.heap[k]? = some (.cells cur e (0, 0)) := by
 rcases h.2 with ⟨hv, _⟩ | ⟨g, cap, cur, hv, hg, hh, _⟩
 · subst hv; cases hk
 · subst hv
   obtain rfl : g = k := by injection hk
   exact ⟨hg, cur, hh⟩
theorem ownsRow_keep {w w' : World} {base : Nat} {e : TypeId} {size : Nat} {v : Value} {n : Nat} {xs : List Value} (h : w.ownsRow base e size v n xs) (hk : ∀ k, v.ownBlock = some k → w'.heap[k]? = w.heap[k]?) : w'.ownsRow base e size v n xs := by
 refine ⟨h.1, ?_⟩
 rcases h.2 with h2 | ⟨g, cap, cur, hv, hg, hh, r⟩
 · exact .inl h2
 · exact .inr ⟨g, cap, cur, hv, hg, (hk g (by rw [hv]; rfl)).trans hh, r⟩
theorem row2n {w : World} {g : Nat} (hg : g = w.heap.size) (x y : Value) (t : TypeId) : ∀ j u, [x, y][j]? = some u → (w.alloc (.cells #[x, y] t)).cell? ((⟨g, 0, none⟩ : Addr).add j) = some u := by
 subst hg
 intro j u h
 match j, h with
 | 0, h => simp at h; subst h; simp [Addr.add]
 | 1, h => simp at h; subst h; simp [Addr.add]
theorem row_form2 {w : World} {B : Nat} {e : TypeId} {v : Value} {n : Nat} {xs : List Value} (h : w.ownsRow B e 2 v n xs) : ∃ ao c, v = .slice ao n c := by
 rcases h.2 with ⟨hv, h0⟩ | ⟨g, cap, cur, hv, _⟩
 · exact ⟨none, 0, by rw [hv, h0]⟩
 · exact ⟨_, _, hv⟩
theorem RunW.app {base b0 b1 b2 b3 : Nat} {u w3 : World} {nm tl ar : ByteArray} {T : List I3} {reps : List R2} {v1 v2 : Value} (h : RunW base b0 b1 b2 b3 u nm tl ar ⟨true, T, reps⟩ v1 v2) (hg : u.grownBy w3 v1.ownBlock) (r : R2) (v' : Value) (ho : w3.ownsRow base 28 2 v' (reps.length + 1) (resCells reps ++ [.int .i64 r.code, .string r.tx])) :
 RunW base b0 b1 b2 b3 (w3.setCell ⟨b1, 0, none⟩ v') nm tl ar ⟨true, T, reps ++ [r]⟩ v' v2 := by
 have ne : ∀ (k : Nat) (x : Array Value) (t : TypeId), u.heap[k]? = some (.cells x t (0, 0)) → t ≠ 28 → some k ≠ v1.ownBlock := fun k x t hk ht e => by
  obtain ⟨_, cur, hc⟩ := own_block h.o1 e.symm
  exact blk_ne hk hc ht rfl
 have g3 : ∀ (k : Nat) (x : Array Value) (t : TypeId), u.heap[k]? = some (.cells x t (0, 0)) → t ≠ 28 → w3.heap[k]? = some (.cells x t (0, 0)) := fun k x t hk ht => (hg.block k (blk_lt hk) (ne k x t hk ht)).trans hk
 have s3 : ∀ (k : Nat) (x : Array Value) (t : TypeId), u.heap[k]? = some (.cells x t (0, 0)) → t ≠ 28 → t ≠ 71 → (w3.setCell ⟨b1, 0, none⟩ v').heap[k]? = some (.cells x t (0, 0)) := fun k x t hk ht hu => (heap_setCell_other _ _ _ _ (blk_ne hk h.h1 hu)).trans (g3 k x t hk ht)
 have hn : v'.ownBlock ≠ some b1 := fun e => by
  obtain ⟨_, cur, hc⟩ := own_block ho e
  exact blk_ne (g3 _ _ _ h.h1 (by decide)) hc (by decide) rfl
 refine ⟨h.le0, h.le1, h.le2, h.le3, s3 _ _ _ h.h0 (by decide) (by decide), heap_setCell_same w3 b1 0 _ _ _ (g3 _ _ _ h.h1 (by decide)), s3 _ _ _ h.h2 (by decide) (by decide), s3 _ _ _ h.h3 (by decide) (by decide), ?_, ?_⟩
 · rw [resCells_snoc, List.length_append]
   exact ownsRow_keep ho fun k hk => heap_setCell_other _ _ _ _ (fun e => hn (by rw [hk, e]))
 · refine ownsRow_keep h.o2 fun k hk => ?_
   obtain ⟨_, cur, hc⟩ := own_block h.o2 hk
   rw [s3 _ _ _ hc (by decide) (by decide), hc]
theorem RunW.set {base b0 b1 b2 b3 : Nat} {u : World} {nm tl ar : ByteArray} {s : RS} {v1 v2 : Value} (h : RunW base b0 b1 b2 b3 u nm tl ar s v1 v2) {B j : Nat} {x : Array Value} (hB : u.heap[B]? = some (.cells x 30 (0, 0))) (v : Value) : RunW base b0 b1 b2 b3 (u.setCell ⟨B, j, none⟩ v) nm tl ar s v1 v2 := by
 have s3 : ∀ (k : Nat) (x : Array Value) (t : TypeId), u.heap[k]? = some (.cells x t (0, 0)) → t ≠ 30 → (u.setCell ⟨B, j, none⟩ v).heap[k]? = some (.cells x t (0, 0)) := fun k x t hk ht => (heap_setCell_other _ _ _ _ (blk_ne hk hB ht)).trans hk
 refine ⟨h.le0, h.le1, h.le2, h.le3, s3 _ _ _ h.h0 (by decide), s3 _ _ _ h.h1 (by decide), s3 _ _ _ h.h2 (by decide), s3 _ _ _ h.h3 (by decide), ?_, ?_⟩
 · refine ownsRow_keep h.o1 fun k hk => ?_
   obtain ⟨_, cur, hc⟩ := own_block h.o1 hk
   rw [s3 _ _ _ hc (by decide), hc]
 · refine ownsRow_keep h.o2 fun k hk => ?_
   obtain ⟨_, cur, hc⟩ := own_block h.o2 hk
   rw [s3 _ _ _ hc (by decide), hc]
theorem RunW.set6 {base b0 b1 b2 b3 : Nat} {u : World} {nm tl ar : ByteArray} {s : RS} {v1 v2 : Value} (h : RunW base b0 b1 b2 b3 u nm tl ar s v1 v2) {B : Nat} (hB : u.heap[B]? = some (.cells z6 30 (0, 0))) (x0 x1 x2 x3 x4 x5 : Value) : RunW base b0 b1 b2 b3 ((((((u.setCell ⟨B, 0, none⟩ x0).setCell ⟨B, 1, none⟩ x1).setCell ⟨B, 2, none⟩ x2).setCell ⟨B, 3, none⟩ x3).setCell ⟨B, 4, none⟩ x4).setCell ⟨B, 5, none⟩ x5) nm tl ar s v1 v2 := by
 have h0 := heap_setCell_same u B 0 _ 30 x0 hB
 have h1 := heap_setCell_same _ B 1 _ 30 x1 h0
 have h2 := heap_setCell_same _ B 2 _ 30 x2 h1
 have h3 := heap_setCell_same _ B 3 _ 30 x3 h2
 have h4 := heap_setCell_same _ B 4 _ 30 x4 h3
 exact (((((h.set hB x0).set h0 x1).set h1 x2).set h2 x3).set h3 x4).set h4 x5
theorem max_base {base : Nat} {w w' : World} (h : MaxAt w) (hb : Below base w w') (h2 : 2 ≤ base) : MaxAt w' := by
 obtain ⟨h1, m, hm⟩ := h
 exact ⟨Nat.lt_of_lt_of_le h1 hb.size, m, by rw [hb.cell (by show 1 < base; omega)]; exact hm⟩
theorem shapes_base {base : Nat} {w w' : World} (h : ShapesAt w) (hb : Below base w w') (h2 : 2 ≤ base) : ShapesAt w' := by
 intro op h1 h2
 have hp : 0 < base := by omega
 obtain ⟨a, b, c⟩ := h op h1 h2
 exact ⟨(hb.cell (p := ⟨0, op * 3, none⟩) hp).trans a, (hb.cell (p := ⟨0, op * 3 + 1, none⟩) hp).trans b, (hb.cell (p := ⟨0, op * 3 + 2, none⟩) hp).trans c⟩
theorem c89s {o : Bool} {c : Int} {t : ByteArray} {h : Bool} {nm : ByteArray} {k : Int} (a : Option Addr) (cap n : Nat) (T : List I3) (arg : ByteArray) (a2 : Option Addr) (cap2 n2 : Nat) (reps : List R2) (w : World) (hn : n = T.length) (hn2 : n2 = reps.length) (h3 : Three T arg reps) (hat : InsAt w a T) (hat2 : ResAt w a2 reps) (hsh : ShapesAt w) (hmx : MaxAt w) (e : nextT T arg reps = ⟨o, c, t, h, nm, k⟩) :
 Calls Tryz.prog 89 #[.agg #[.slice a n cap], .string arg, .slice a2 n2 cap2] w fun e w' => e = .returned (.agg #[.bool o, .int .i64 c, .string t, .bool h, .string nm, .int .i64 k]) ∧ Below w.heap.size w w' := by
 subst hn hn2
 exact c89t a cap T arg a2 cap2 reps w h3 hat hat2 hsh hmx e
end Go.Proofs.YtpjpckmfehfniaaGreatDoor
