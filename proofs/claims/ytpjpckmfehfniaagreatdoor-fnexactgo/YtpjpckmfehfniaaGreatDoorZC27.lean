import Derived.Test.YtpjpckmfehfniaaGreatDoorZC19
import Derived.Test.YtpjpckmfehfniaaGreatDoorNG
import Derived.Test.YtpjpckmfehfniaaGreatDoorZC20
import Derived.Test.YtpjpckmfehfniaaGreatDoorN9
namespace Go.Proofs.YtpjpckmfehfniaaGreatDoor
open Go.RowKit
set_option maxRecDepth 100000 in
set_option maxHeartbeats 2000000 in
theorem c34n (a : Option Addr) (cap : Nat) (T : List I3) (arg : ByteArray) (a2 : Option Addr) (cap2 : Nat) (reps : List R2) (w : World) (hs : ∀ i, (T.getD i i3z).tx.size ≤ 1048700) (hl : T.length ≤ 1048576) (hat : InsAt w a T) (hno : okT T = false ∨ 300 < arg.size ∨ 14 < reps.length) (har : arg.size ≤ 1048576) (hrl : reps.length ≤ 1048576) :
    Calls Tryz.prog 34 #[.agg #[.slice a T.length cap], .string arg, .slice a2 reps.length cap2] w fun e w' => e = .returned (nextT T arg reps).v ∧ Below w.heap.size w w' := by
  have HIA : Hid (InsAt w a T) := hat
  have HZ : Hid (nextT T arg reps = zeroT) := next_no (by
    rcases hno with h | h | h
    · exact .inl h
    · exact .inr (.inl h)
    · exact .inr (.inr (.inl h)))
  clear hat
  have key : ∀ w1 : World, Below (w.heap.size + 2) (W0 a T.length cap w) w1 → Hid (Below w.heap.size w w1) := fun w1 h => (W0_below a T.length cap w).trans (h.mono (by omega))
  by_cases hok : okT T = true
  · have hno' : 300 < arg.size ∨ 14 < reps.length := by
      rcases hno with h | h
      · rw [hok] at h; cases h
      · exact h
    clear hno
    by_cases h300 : 300 < arg.size
    · clear hno'
      go_enter Tryz.func34, Tryz.ntmps34
      go_wp2_with fail
      refine (c75 a cap T (W0 a T.length cap w) hs hl (ins_below HIA.out (W0_below _ _ _ _))).mono ?_
      rintro e w1 ⟨rfl, hb1⟩
      rw [hok]
      have hb : Below (w.heap.size + 2) (W0 a T.length cap w) w1 := by rw [W0_size] at hb1; exact hb1
      obtain ⟨⟨t0, q0, q1, q2, q3, q4, q5⟩, hfz⟩ := W0_cells hb
      go_wp2
      obtain ⟨s0, s1, s2, s3, s4, s5⟩ := set6 (z6_heap hb) (.bool false) (.int .i64 0) (.string ⟨#[]⟩) (.bool false) (.string ⟨#[]⟩) (.int .i64 0)
      refine bodyPost_ret (v := zeroT.v) (by simp [results, Tryz.results34, go_sem, s0, s1, s2, s3, s4, s5, zeroT, TN.v]) rfl ⟨by rw [HZ.out], ?_⟩
      exact (key w1 hb).out.trans (set6_below (by omega) _ _ _ _ _ _)
    · have h14 : 14 < reps.length := by omega
      clear hno'
      go_enter Tryz.func34, Tryz.ntmps34
      go_wp2_with fail
      refine (c75 a cap T (W0 a T.length cap w) hs hl (ins_below HIA.out (W0_below _ _ _ _))).mono ?_
      rintro e w1 ⟨rfl, hb1⟩
      rw [hok]
      have hb : Below (w.heap.size + 2) (W0 a T.length cap w) w1 := by rw [W0_size] at hb1; exact hb1
      obtain ⟨⟨t0, q0, q1, q2, q3, q4, q5⟩, hfz⟩ := W0_cells hb
      go_wp2
      obtain ⟨s0, s1, s2, s3, s4, s5⟩ := set6 (z6_heap hb) (.bool false) (.int .i64 0) (.string ⟨#[]⟩) (.bool false) (.string ⟨#[]⟩) (.int .i64 0)
      refine bodyPost_ret (v := zeroT.v) (by simp [results, Tryz.results34, go_sem, s0, s1, s2, s3, s4, s5, zeroT, TN.v]) rfl ⟨by rw [HZ.out], ?_⟩
      exact (key w1 hb).out.trans (set6_below (by omega) _ _ _ _ _ _)
  · have hok' : okT T = false := by simpa using hok
    clear hno hok
    go_enter Tryz.func34, Tryz.ntmps34
    go_wp2_with fail
    refine (c75 a cap T (W0 a T.length cap w) hs hl (ins_below HIA.out (W0_below _ _ _ _))).mono ?_
    rintro e w1 ⟨rfl, hb1⟩
    rw [hok']
    have hb : Below (w.heap.size + 2) (W0 a T.length cap w) w1 := by rw [W0_size] at hb1; exact hb1
    obtain ⟨⟨t0, q0, q1, q2, q3, q4, q5⟩, hfz⟩ := W0_cells hb
    go_wp2
    obtain ⟨s0, s1, s2, s3, s4, s5⟩ := set6 (z6_heap hb) (.bool false) (.int .i64 0) (.string ⟨#[]⟩) (.bool false) (.string ⟨#[]⟩) (.int .i64 0)
    refine bodyPost_ret (v := zeroT.v) (by simp [results, Tryz.results34, go_sem, s0, s1, s2, s3, s4, s5, zeroT, TN.v]) rfl ⟨by rw [HZ.out], ?_⟩
    exact (key w1 hb).out.trans (set6_below (by omega) _ _ _ _ _ _)
end Go.Proofs.YtpjpckmfehfniaaGreatDoor
namespace Go.Proofs.YtpjpckmfehfniaaGreatDoor
open Go.RowKit
structure Three (T : List I3) (arg : ByteArray) (reps : List R2) : Prop where
  tl : T.length ≤ 1048576
  ts : ∀ i, (T.getD i i3z).tx.size ≤ 1048576
  al : arg.size ≤ 1048576
  rl : reps.length ≤ 1048576
  rs : ∀ i, (reps.getD i r2z).tx.size ≤ 1048576
theorem c34 (a : Option Addr) (cap : Nat) (T : List I3) (arg : ByteArray) (a2 : Option Addr) (cap2 : Nat) (reps : List R2) (w : World) (h3 : Three T arg reps) (hat : InsAt w a T) (hat2 : ResAt w a2 reps) :
    Calls Tryz.prog 34 #[.agg #[.slice a T.length cap], .string arg, .slice a2 reps.length cap2] w fun e w' => e = .returned (nextT T arg reps).v ∧ Below w.heap.size w w' := by
  have hs : ∀ i, (T.getD i i3z).tx.size ≤ 1048700 := fun i => Nat.le_trans (h3.ts i) (by omega)
  by_cases h : okT T = true ∧ arg.size ≤ 300 ∧ reps.length ≤ 14
  · exact c34y a cap T arg a2 cap2 reps w hs h3.tl hat h.1 h.2.2 h.2.1 hat2 (fun i => Nat.le_trans (h3.rs i) (by omega))
  · refine c34n a cap T arg a2 cap2 reps w hs h3.tl hat ?_ h3.al h3.rl
    by_cases h1 : okT T = true
    · by_cases h2 : arg.size ≤ 300
      · exact .inr (.inr (by have h4 : ¬ reps.length ≤ 14 := fun h4 => h ⟨h1, h2, h4⟩; omega))
      · exact .inr (.inl (by omega))
    · exact .inl (by simpa using h1)
theorem c89 (a : Option Addr) (cap : Nat) (T : List I3) (arg : ByteArray) (a2 : Option Addr) (cap2 : Nat) (reps : List R2) (w : World) (h3 : Three T arg reps) (hat : InsAt w a T) (hat2 : ResAt w a2 reps) (hsh : ShapesAt w) (hmx : MaxAt w) :
    Calls Tryz.prog 89 #[.agg #[.slice a T.length cap], .string arg, .slice a2 reps.length cap2] w fun e w' => e = .returned (nextT T arg reps).v ∧ Below w.heap.size w w' := by
  have hs : ∀ i, (T.getD i i3z).tx.size ≤ 1048700 := fun i => Nat.le_trans (h3.ts i) (by omega)
  by_cases h : okT T = true ∧ arg.size ≤ 300 ∧ reps.length ≤ 14
  · exact c89y a cap T arg a2 cap2 reps w hs h3.tl hat h.1 h.2.2 h.2.1 hat2 (fun i => Nat.le_trans (h3.rs i) (by omega)) hsh hmx
  · refine c89n a cap T arg a2 cap2 reps w hs h3.tl hat ?_ hsh h3.al h3.rl
    by_cases h1 : okT T = true
    · by_cases h2 : arg.size ≤ 300
      · exact .inr (.inr (by have h4 : ¬ reps.length ≤ 14 := fun h4 => h ⟨h1, h2, h4⟩; omega))
      · exact .inr (.inl (by omega))
    · exact .inl (by simpa using h1)

theorem c34t {o : Bool} {c : Int} {t : ByteArray} {h : Bool} {n : ByteArray} {k : Int} (a : Option Addr) (cap : Nat) (T : List I3) (arg : ByteArray) (a2 : Option Addr) (cap2 : Nat) (reps : List R2) (w : World) (h3 : Three T arg reps) (hat : InsAt w a T) (hat2 : ResAt w a2 reps) (e : nextT T arg reps = ⟨o, c, t, h, n, k⟩) :
    Calls Tryz.prog 34 #[.agg #[.slice a T.length cap], .string arg, .slice a2 reps.length cap2] w fun e w' => e = .returned (.agg #[.bool o, .int .i64 c, .string t, .bool h, .string n, .int .i64 k]) ∧ Below w.heap.size w w' := by
  have := c34 a cap T arg a2 cap2 reps w h3 hat hat2
  rw [e] at this
  exact this
theorem c89t {o : Bool} {c : Int} {t : ByteArray} {h : Bool} {n : ByteArray} {k : Int} (a : Option Addr) (cap : Nat) (T : List I3) (arg : ByteArray) (a2 : Option Addr) (cap2 : Nat) (reps : List R2) (w : World) (h3 : Three T arg reps) (hat : InsAt w a T) (hat2 : ResAt w a2 reps) (hsh : ShapesAt w) (hmx : MaxAt w) (e : nextT T arg reps = ⟨o, c, t, h, n, k⟩) :
    Calls Tryz.prog 89 #[.agg #[.slice a T.length cap], .string arg, .slice a2 reps.length cap2] w fun e w' => e = .returned (.agg #[.bool o, .int .i64 c, .string t, .bool h, .string n, .int .i64 k]) ∧ Below w.heap.size w w' := by
  have := c89 a cap T arg a2 cap2 reps w h3 hat hat2 hsh hmx
  rw [e] at this
  exact this
theorem c12t (o : Bool) (c : Int) (t : ByteArray) (h : Bool) (n : ByteArray) (k : Int) (w : World) :
    Calls Tryz.prog 12 #[.agg #[.bool o, .int .i64 c, .string t, .bool h, .string n, .int .i64 k], .agg #[.bool o, .int .i64 c, .string t, .bool h, .string n, .int .i64 k]] w fun e w' => e = .returned (.bool true) ∧ Below w.heap.size w w' := c12 ⟨o, c, t, h, n, k⟩ w
def tcells (o : Bool) (c : Int) (t : ByteArray) (h : Bool) (n : ByteArray) (k : Int) : Obj := .cells #[.bool o, .int .i64 c, .string t, .bool h, .string n, .int .i64 k] 30
theorem turn_cells {o : Bool} {c : Int} {t : ByteArray} {h : Bool} {n : ByteArray} {k : Int} {w u : World} (hb : Below (w.heap.size + 1) (w.alloc (tcells o c t h n k)) u) :
    u.cell? ⟨w.heap.size, 0, none⟩ = some (.bool o) ∧ u.cell? ⟨w.heap.size, 1, none⟩ = some (.int .i64 c) ∧ u.cell? ⟨w.heap.size, 2, none⟩ = some (.string t) ∧ u.cell? ⟨w.heap.size, 3, none⟩ = some (.bool h) ∧ u.cell? ⟨w.heap.size, 4, none⟩ = some (.string n) ∧ u.cell? ⟨w.heap.size, 5, none⟩ = some (.int .i64 k) := by
  have e : ∀ j, u.cell? ⟨w.heap.size, j, none⟩ = (w.alloc (tcells o c t h n k)).cell? ⟨w.heap.size, j, none⟩ := fun j => hb.cell (by simp)
  rw [e, e, e, e, e, e]
  unfold tcells
  simp

end Go.Proofs.YtpjpckmfehfniaaGreatDoor
namespace Go.Proofs.YtpjpckmfehfniaaGreatDoor
open Go.RowKit
theorem own_block {w : World} {base : Nat} {e : TypeId} {size : Nat} {v : Value} {n : Nat} {xs : List Value} (h : w.ownsRow base e size v n xs) {k : Nat} (hk : v.ownBlock = some k) : base ≤ k ∧ ∃ cur, w.heap[k]? = some (.cells cur e (0, 0)) := by
  rcases h.2 with ⟨hv, _⟩ | ⟨g, cap, cur, hv, hg, hh, _⟩
  · subst hv; cases hk
  · subst hv
    obtain rfl : g = k := by injection hk
    exact ⟨hg, cur, hh⟩
theorem ownsRow_keep {w w' : World} {base : Nat} {e : TypeId} {size : Nat} {v : Value} {n : Nat} {xs : List Value} (h : w.ownsRow base e size v n xs) (hk : ∀ k, v.ownBlock = some k → w'.heap[k]? = w.heap[k]?) : w'.ownsRow base e size v n xs := by
  refine ⟨h.1, ?_⟩
  rcases h.2 with h2 | ⟨g, cap, cur, hv, hg, hh, r⟩
  · exact .inl h2
  · exact .inr ⟨g, cap, cur, hv, hg, (hk g (by rw [hv]; rfl)).trans hh, r⟩
theorem row2n {w : World} {g : Nat} (hg : g = w.heap.size) (x y : Value) (t : TypeId) : ∀ j u, [x, y][j]? = some u → (w.alloc (.cells #[x, y] t)).cell? ((⟨g, 0, none⟩ : Addr).add j) = some u := by
  subst hg
  intro j u h
  match j, h with
  | 0, h => simp at h; subst h; simp [Addr.add]
  | 1, h => simp at h; subst h; simp [Addr.add]
theorem row_form2 {w : World} {B : Nat} {e : TypeId} {v : Value} {n : Nat} {xs : List Value} (h : w.ownsRow B e 2 v n xs) : ∃ ao c, v = .slice ao n c := by
  rcases h.2 with ⟨hv, h0⟩ | ⟨g, cap, cur, hv, _⟩
  · exact ⟨none, 0, by rw [hv, h0]⟩
  · exact ⟨_, _, hv⟩
theorem RunW.app {base b0 b1 b2 b3 : Nat} {u w3 : World} {nm tl ar : ByteArray} {T : List I3} {reps : List R2} {v1 v2 : Value} (h : RunW base b0 b1 b2 b3 u nm tl ar ⟨true, T, reps⟩ v1 v2) (hg : u.grownBy w3 v1.ownBlock) (r : R2) (v' : Value) (ho : w3.ownsRow base 28 2 v' (reps.length + 1) (resCells reps ++ [.int .i64 r.code, .string r.tx])) :
    RunW base b0 b1 b2 b3 (w3.setCell ⟨b1, 0, none⟩ v') nm tl ar ⟨true, T, reps ++ [r]⟩ v' v2 := by
  have ne : ∀ (k : Nat) (x : Array Value) (t : TypeId), u.heap[k]? = some (.cells x t (0, 0)) → t ≠ 28 → some k ≠ v1.ownBlock := fun k x t hk ht e => by
    obtain ⟨_, cur, hc⟩ := own_block h.o1 e.symm
    exact blk_ne hk hc ht rfl
  have g3 : ∀ (k : Nat) (x : Array Value) (t : TypeId), u.heap[k]? = some (.cells x t (0, 0)) → t ≠ 28 → w3.heap[k]? = some (.cells x t (0, 0)) := fun k x t hk ht => (hg.block k (blk_lt hk) (ne k x t hk ht)).trans hk
  have s3 : ∀ (k : Nat) (x : Array Value) (t : TypeId), u.heap[k]? = some (.cells x t (0, 0)) → t ≠ 28 → t ≠ 71 → (w3.setCell ⟨b1, 0, none⟩ v').heap[k]? = some (.cells x t (0, 0)) := fun k x t hk ht hu => (heap_setCell_other _ _ _ _ (blk_ne hk h.h1 hu)).trans (g3 k x t hk ht)
  have hn : v'.ownBlock ≠ some b1 := fun e => by
    obtain ⟨_, cur, hc⟩ := own_block ho e
    exact blk_ne (g3 _ _ _ h.h1 (by decide)) hc (by decide) rfl
  refine ⟨h.le0, h.le1, h.le2, h.le3, s3 _ _ _ h.h0 (by decide) (by decide), heap_setCell_same w3 b1 0 _ _ _ (g3 _ _ _ h.h1 (by decide)), s3 _ _ _ h.h2 (by decide) (by decide), s3 _ _ _ h.h3 (by decide) (by decide), ?_, ?_⟩
  · rw [resCells_snoc, List.length_append]
    exact ownsRow_keep ho fun k hk => heap_setCell_other _ _ _ _ (fun e => hn (by rw [hk, e]))
  · refine ownsRow_keep h.o2 fun k hk => ?_
    obtain ⟨_, cur, hc⟩ := own_block h.o2 hk
    rw [s3 _ _ _ hc (by decide) (by decide), hc]
theorem RunW.set {base b0 b1 b2 b3 : Nat} {u : World} {nm tl ar : ByteArray} {s : RS} {v1 v2 : Value} (h : RunW base b0 b1 b2 b3 u nm tl ar s v1 v2) {B j : Nat} {x : Array Value} (hB : u.heap[B]? = some (.cells x 30 (0, 0))) (v : Value) : RunW base b0 b1 b2 b3 (u.setCell ⟨B, j, none⟩ v) nm tl ar s v1 v2 := by
  have s3 : ∀ (k : Nat) (x : Array Value) (t : TypeId), u.heap[k]? = some (.cells x t (0, 0)) → t ≠ 30 → (u.setCell ⟨B, j, none⟩ v).heap[k]? = some (.cells x t (0, 0)) := fun k x t hk ht => (heap_setCell_other _ _ _ _ (blk_ne hk hB ht)).trans hk
  refine ⟨h.le0, h.le1, h.le2, h.le3, s3 _ _ _ h.h0 (by decide), s3 _ _ _ h.h1 (by decide), s3 _ _ _ h.h2 (by decide), s3 _ _ _ h.h3 (by decide), ?_, ?_⟩
  · refine ownsRow_keep h.o1 fun k hk => ?_
    obtain ⟨_, cur, hc⟩ := own_block h.o1 hk
    rw [s3 _ _ _ hc (by decide), hc]
  · refine ownsRow_keep h.o2 fun k hk => ?_
    obtain ⟨_, cur, hc⟩ := own_block h.o2 hk
    rw [s3 _ _ _ hc (by decide), hc]
theorem RunW.set6 {base b0 b1 b2 b3 : Nat} {u : World} {nm tl ar : ByteArray} {s : RS} {v1 v2 : Value} (h : RunW base b0 b1 b2 b3 u nm tl ar s v1 v2) {B : Nat} (hB : u.heap[B]? = some (.cells z6 30 (0, 0))) (x0 x1 x2 x3 x4 x5 : Value) : RunW base b0 b1 b2 b3 ((((((u.setCell ⟨B, 0, none⟩ x0).setCell ⟨B, 1, none⟩ x1).setCell ⟨B, 2, none⟩ x2).setCell ⟨B, 3, none⟩ x3).setCell ⟨B, 4, none⟩ x4).setCell ⟨B, 5, none⟩ x5) nm tl ar s v1 v2 := by
  have h0 := heap_setCell_same u B 0 _ 30 x0 hB
  have h1 := heap_setCell_same _ B 1 _ 30 x1 h0
  have h2 := heap_setCell_same _ B 2 _ 30 x2 h1
  have h3 := heap_setCell_same _ B 3 _ 30 x3 h2
  have h4 := heap_setCell_same _ B 4 _ 30 x4 h3
  exact (((((h.set hB x0).set h0 x1).set h1 x2).set h2 x3).set h3 x4).set h4 x5
theorem max_base {base : Nat} {w w' : World} (h : MaxAt w) (hb : Below base w w') (h2 : 2 ≤ base) : MaxAt w' := by
  obtain ⟨h1, m, hm⟩ := h
  exact ⟨Nat.lt_of_lt_of_le h1 hb.size, m, by rw [hb.cell (by show 1 < base; omega)]; exact hm⟩
theorem shapes_base {base : Nat} {w w' : World} (h : ShapesAt w) (hb : Below base w w') (h2 : 2 ≤ base) : ShapesAt w' := by
  intro op h1 h2
  have hp : 0 < base := by omega
  obtain ⟨a, b, c⟩ := h op h1 h2
  exact ⟨(hb.cell (p := ⟨0, op * 3, none⟩) hp).trans a, (hb.cell (p := ⟨0, op * 3 + 1, none⟩) hp).trans b, (hb.cell (p := ⟨0, op * 3 + 2, none⟩) hp).trans c⟩
theorem c89s {o : Bool} {c : Int} {t : ByteArray} {h : Bool} {nm : ByteArray} {k : Int} (a : Option Addr) (cap n : Nat) (T : List I3) (arg : ByteArray) (a2 : Option Addr) (cap2 n2 : Nat) (reps : List R2) (w : World) (hn : n = T.length) (hn2 : n2 = reps.length) (h3 : Three T arg reps) (hat : InsAt w a T) (hat2 : ResAt w a2 reps) (hsh : ShapesAt w) (hmx : MaxAt w) (e : nextT T arg reps = ⟨o, c, t, h, nm, k⟩) :
    Calls Tryz.prog 89 #[.agg #[.slice a n cap], .string arg, .slice a2 n2 cap2] w fun e w' => e = .returned (.agg #[.bool o, .int .i64 c, .string t, .bool h, .string nm, .int .i64 k]) ∧ Below w.heap.size w w' := by
  subst hn hn2
  exact c89t a cap T arg a2 cap2 reps w h3 hat hat2 hsh hmx e
end Go.Proofs.YtpjpckmfehfniaaGreatDoor
