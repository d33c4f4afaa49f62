import Derived.Test.YtboojefodbjbcaaGreatDoorZR00
import Derived.Test.YtboojefodbjbcaaGreatDoorZR14
import Derived.Test.YtboojefodbjbcaaGreatDoorGQV
import Derived.Test.YtboojefodbjbcaaGreatDoorZR12
namespace Go.Proofs.YtboojefodbjbcaaGreatDoor.G
open Go.RowKit
open T (F2 f2z treeOk Asc FilesAt)
def Is7 (w : World) (fs : List F2) (e : Ending) (w' : World) : Prop := ∃ (ms : List M3) (v : Value), e = .returned v ∧ w'.ownsRow w.heap.size 51 3 v ms.length (mkCells ms) ∧ IsPT fs ms
set_option maxHeartbeats 2000000 in
theorem c44 (a : Option Addr) (cap : Nat) (fs : List F2) (w : World) (hl : fs.length ≤ 1048576) (hs : ∀ i, (fs.getD i f2z).le 1048576) (hat : FilesAt w a fs) (hv : VarsZ w) :
 Calls Tryz.prog 44 #[.agg #[.slice a fs.length cap]] w fun e w' => Is7 w fs e w' ∧ Below w.heap.size w w' := by
 have HV : Hid (VarsZ w) := hv
 have HAT : Hid (FilesAt w a fs) := hat
 have hB0 : Below w.heap.size w (w.alloc (.cells #[.slice a fs.length cap] 49)) := (Below.refl _ _).alloc (Nat.le_refl _) _
 have h18 := T.c42 a cap fs _ hl hs (T.files_below hat hB0)
 clear hv hat
 go_enter Tryz.func44, Tryz.ntmps44
 go_wp2_with fail
 refine h18.mono ?_
 rintro e w1 ⟨⟨b, rfl, hb⟩, hb1⟩
 have hx1 : Below (w.heap.size + 1) (w.alloc (.cells #[.slice a fs.length cap] 49)) w1 := by have h := hb1; simp at h; exact h
 have hB1 : Below w.heap.size w w1 := hB0.trans (hx1.mono (by omega))
 have hz1 : w.heap.size + 1 ≤ w1.heap.size := by have := hx1.size; simpa using this
 have t1 : w1.cell? ⟨w.heap.size, 0, none⟩ = some (.slice a fs.length cap) := (hx1.cell (p := ⟨w.heap.size, 0, none⟩) (by simp)).trans (by simp [go_sem])
 clear hb1 h18
 cases b
 · have HR : Hid (IsPT fs []) := .inl ⟨(fun h => by have := hb.2 h; cases this), rfl⟩
   clear hb
   go_wp2
   go_ret
   exact ⟨⟨[], _, rfl, World.ownsRow_nil _ _ _ _, HR.out⟩, hB1⟩
 · have HOK : Hid (treeOk fs) := hb.1 rfl
   clear hb
   have h19 := c86 a cap fs w1 HOK.out (T.files_below HAT.out hB1) (HV.out.below hB1)
   go_wp2_with fail
   refine h19.mono ?_
   rintro e w2 ⟨⟨ms, v, er, rfl, hown, hor⟩, hb2⟩
   have hB2 : Below w.heap.size w w2 := hB1.trans (hb2.mono hB1.size)
   have hown2 : w2.ownsRow w.heap.size 51 3 v ms.length (mkCells ms) := owns_mono hown (by omega)
   obtain ⟨ao, co, hvv⟩ := row_form3 hown2
   subst hvv
   clear h19 hown
   rcases hor with ⟨rfl, hp⟩ | ⟨⟨n, ty, va, rfl⟩, hp⟩
   · have HP : Hid (IsPT fs ms) := hp
     clear hp
     go_wp2_with fail
     refine (c87_nil _).mono ?_
     rintro e w3 ⟨rfl, hb3⟩
     have hown3 := ownsRow_below hown2 hb3
     have hB3 := hB2.trans (hb3.mono hB2.size)
     go_wp2
     go_ret
     exact ⟨⟨ms, _, rfl, hown3, HP.out⟩, hB3⟩
   · have HP : Hid (IsPT fs []) := hp
     clear hp
     go_wp2_with fail
     refine (c87_hit n ty va _ (HV.out.below hB2).vr.va.g6).mono ?_
     rintro e w3 ⟨rfl, hb3⟩
     have hB3 := hB2.trans (hb3.mono hB2.size)
     go_wp2
     go_ret
     exact ⟨⟨[], _, rfl, World.ownsRow_nil _ _ _ _, HP.out⟩, hB3⟩
def Is5 (fs : List F2) (e : Ending) (w' : World) : Prop := ∃ (ms : List M3) (a : Option Addr) (cap : Nat), e = .returned (.slice a ms.length cap) ∧ MksAt w' a ms ∧ IsPT fs ms
set_option maxHeartbeats 4000000 in
set_option maxRecDepth 100000 in
theorem c121 (a : Option Addr) (cap : Nat) (fs : List F2) (w : World) (hl : fs.length ≤ 1048576) (hs : ∀ i, (fs.getD i f2z).le 1048576) (hat : FilesAt w a fs) :
 Calls Tryz.prog 121 #[.agg #[.slice a fs.length cap]] w fun e w' => Is5 fs e w' ∧ Below w.heap.size w w' := by
 have HAT : Hid (FilesAt w a fs) := hat
 have hB0 : Below w.heap.size w (w.alloc (.cells #[.slice a fs.length cap] 49)) := (Below.refl _ _).alloc (Nat.le_refl _) _
 have h14 := T.c105 a cap fs planA _ hl (T.files_below hat hB0)
 clear hat
 unfold planA at h14
 go_enter Tryz.func121, Tryz.ntmps121
 go_wp2_with fail
 refine h14.mono ?_
 rintro e w1 ⟨⟨r, rfl, hr⟩, hb1⟩
 have hx1 : Below (w.heap.size + 1) (w.alloc (.cells #[.slice a fs.length cap] 49)) w1 := by have h := hb1; simp at h; exact h
 have hB1 : Below w.heap.size w w1 := hB0.trans (hx1.mono (by omega))
 have hz1 : w.heap.size + 1 ≤ w1.heap.size := by have := hx1.size; simpa using this
 have t1 : w1.cell? ⟨w.heap.size, 0, none⟩ = some (.slice a fs.length cap) := (hx1.cell (p := ⟨w.heap.size, 0, none⟩) (by simp)).trans (by simp [go_sem])
 have h15 := T.c29 a cap fs w1 hl hs (T.files_below HAT.out hB1)
 clear hb1 h14
 go_wp2_with fail
 refine h15.mono ?_
 rintro e w2 ⟨⟨b, rfl, hb⟩, hb2⟩
 have hB2 : Below w.heap.size w w2 := hB1.trans (hb2.mono hB1.size)
 have hz2 : w1.heap.size ≤ w2.heap.size := hb2.size
 have t2 : w2.cell? ⟨w.heap.size, 0, none⟩ = some (.slice a fs.length cap) := (hb2.cell (p := ⟨w.heap.size, 0, none⟩) (by show w.heap.size < w1.heap.size; omega)).trans t1
 clear h15 hb2 t1
 cases b
 · have HR : Hid (IsPT fs []) := .inl ⟨(fun h => by have := hb.2 h; cases this), rfl⟩
   clear hb hr
   go_wp2
   go_ret
   exact ⟨⟨[], _, _, rfl, .inl rfl, HR.out⟩, hB2.alloc hB2.size _⟩
 · have HOK : Hid (treeOk fs) := hb.1 rfl
   clear hb
   rcases hr with ⟨rfl, hno⟩ | ⟨i, rfl, hi, hnm⟩
   · have HR : Hid (IsPT fs []) := .inr (.inl ⟨HOK.out, hno, rfl⟩)
     clear hno
     go_wp2
     go_ret
     exact ⟨⟨[], _, _, rfl, .inl rfl, HR.out⟩, hB2.alloc hB2.size _⟩
   · have hxt := tree_text HOK.out hi
     have HNO : Hid (∀ ks ok, IsPlan (fs.getD i f2z).tx.data.toList ks ok → ¬ (ok = true ∧ FreeAll fs ks) → IsPT fs []) := fun ks ok hp hn => .inr (.inr ⟨HOK.out, i, hi, hnm, ks, ok, hp, .inr ⟨hn, rfl⟩⟩)
     have HYES : Hid (∀ ks, IsPlan (fs.getD i f2z).tx.data.toList ks true → FreeAll fs ks → IsPT fs ks) := fun ks hp hn => .inr (.inr ⟨HOK.out, i, hi, hnm, ks, true, hp, .inl ⟨rfl, hn, rfl⟩⟩)
     obtain ⟨bf, off, hc⟩ := T.files_some (T.files_below HAT.out hB2)
     rcases hc with hss | ⟨ha, hbw, hcell⟩
     · rw [hss] at hi; exact absurd hi (Nat.not_lt_zero _)
     subst ha
     have g1 := (hcell i hi).2
     have HX : Hid (∃ x, x = fs.getD i f2z) := ⟨_, rfl⟩
     obtain ⟨x, hx⟩ := HX.out
     rw [← hx] at g1 HNO HYES hxt
     clear hcell HX hx hnm
     go_wp2_with fail
     refine (c137 x.tx _ (by omega)).mono ?_
     rintro e w3 ⟨⟨ms, ok, am, cm, rfl, hatm, hp⟩, hb3⟩
     have hB3 : Below w.heap.size w w3 := hB2.trans (hb3.mono hB2.size)
     have hz3 : w2.heap.size ≤ w3.heap.size := hb3.size
     have t3 := (hb3.cell (p := ⟨w.heap.size, 0, none⟩) (by show w.heap.size < w2.heap.size; omega)).trans t2
     have HP : Hid (IsPlan x.tx.data.toList ms ok) := hp
     obtain ⟨hml, hms⟩ := isPlan_len hp
     have HATM : Hid (MksAt w3 am ms) := hatm
     clear hp hb3 t2 hatm
     go_wp2_with fail
     go_loopw [5, 6] (fun o i wr => ∃ (k : Nat) (b : Bool), k ≤ ms.length ∧ i = .int .i64 k ∧ o = .bool b ∧ Hid (b = true ↔ ok = true ∧ ∀ j, j < k → Free fs (ms.getD j m3z).nm) ∧ Below w3.heap.size w3 wr) (fun _ i _ => ms.length - (intOf i).toNat)
     case atStart => exact ⟨0, ok, Nat.zero_le _, rfl, rfl, ⟨fun h => ⟨h, fun j h => absurd h (Nat.not_lt_zero _)⟩, fun h => h.1⟩, Below.refl _ _⟩
     case round =>
      obtain ⟨k, b, hk, rfl, rfl, hfr, hbr⟩ := hrel
      have hBr : Below w.heap.size w wr := hB3.trans (hbr.mono hB3.size)
      have hzr : w3.heap.size ≤ wr.heap.size := hbr.size
      have tr := (hbr.cell (p := ⟨w.heap.size, 0, none⟩) (by show w.heap.size < w3.heap.size; omega)).trans t3
      by_cases hlt : k < ms.length
      · cases b
        · have hfr' : Hid (false = true ↔ ok = true ∧ ∀ j, j < k + 1 → Free fs (ms.getD j m3z).nm) := ⟨(fun h => by cases h), fun h => hfr.out.2 ⟨h.1, fun j hj => h.2 j (by omega)⟩⟩
          go_wp2_with fail
          refine wp_region_held_drew (S := (fun _ => True)) (by kernel_rfl) ?_ (fun hHeld => ?_)
          · ((try dsimp only); (first | done | trivial))
          refine tk (i := 0) (oi := ⟨some 33, .move (.tmp 5), 4, _, _, none⟩) (v := ?_) rfl (by kernel_rfl) rfl ?e hHeld ?_
          case e => intro wq hSw; (try dsimp only at hSw); go_simp; try with_reducible rfl
          try simp only [qq]
          refine tk (i := 1) (oi := ⟨some 34, .move (.tmp 33), 4, _, _, none⟩) (v := ?_) rfl (by kernel_rfl) rfl ?e hHeld ?_
          case e => intro wq hSw; (try dsimp only at hSw); go_simp; try with_reducible rfl
          try simp only [qq]
          refine tu (i := 2) (oi := ⟨some 35, .load 49 (.tmp 1), 49, _, _, some (1, true)⟩) rfl (by kernel_rfl) rfl hHeld ?_
          try simp only [qq]
          refine tu (i := 3) (oi := ⟨some 36, .move (.tmp 4), 95, _, _, some (1, true)⟩) rfl (by kernel_rfl) rfl hHeld ?_
          try simp only [qq]
          refine tu (i := 4) (oi := ⟨some 37, .move (.tmp 6), 3, _, _, some (1, true)⟩) rfl (by kernel_rfl) rfl hHeld ?_
          try simp only [qq]
          refine tu (i := 5) (oi := ⟨some 38, .indexAddr 95 (.tmp 36) (.tmp 37), 0, _, _, some (1, true)⟩) rfl (by kernel_rfl) rfl hHeld ?_
          try simp only [qq]
          refine tu (i := 6) (oi := ⟨some 39, .fieldAddr 51 (.tmp 38) 0, 0, _, _, some (1, true)⟩) rfl (by kernel_rfl) rfl hHeld ?_
          try simp only [qq]
          refine tu (i := 7) (oi := ⟨some 40, .load 9 (.tmp 39), 9, _, _, some (1, true)⟩) rfl (by kernel_rfl) rfl hHeld ?_
          try simp only [qq]
          refine tu (i := 8) (oi := ⟨some 41, .call ⟨.value (.func 105), #[.tmp 35, .tmp 40], #[49, 9]⟩, 3, _, _, some (1, true)⟩) rfl (by kernel_rfl) rfl hHeld ?_
          try simp only [qq]
          refine tu (i := 9) (oi := ⟨some 42, .binOp .lss 3 (.tmp 41) (.const (.int .i64 0)) 3, 4, _, _, some (1, true)⟩) rfl (by kernel_rfl) rfl hHeld ?_
          try simp only [qq]
          refine tk (i := 10) (oi := ⟨some 43, .pick (.tmp 34) (.tmp 42) (.const (.bool false)), 4, _, _, none⟩) (v := ?_) rfl (by kernel_rfl) rfl ?e hHeld ?_
          case e => intro wq hSw; (try dsimp only at hSw); go_simp; try with_reducible rfl
          try simp only [qq]
          refine tk (i := 11) (oi := ⟨some 5, .assign (.tmp 43), 4, _, _, none⟩) (v := ?_) rfl (by kernel_rfl) rfl ?e hHeld ?_
          case e => intro wq hSw; (try dsimp only at hSw); go_simp; try with_reducible rfl
          try simp only [qq]
          refine wpAnyH_done (by kernel_rfl) ?_ _
          clear hHeld
          go_wp2
          go_roundw
          case rel => exact ⟨k + 1, false, by omega, by go_num, rfl, hfr', hbr.drew⟩
          case measure => simp [intOf]; omega
        · obtain ⟨bm, om, hc⟩ := mks_some (mks_below HATM.out hbr)
          rcases hc with hss | ⟨hao, hbmw, hcell⟩
          · rw [hss] at hlt; exact absurd hlt (Nat.not_lt_zero _)
          subst hao
          have g0 := (hcell k hlt).1
          have HX : Hid (∃ y, y = ms.getD k m3z) := ⟨_, rfl⟩
          obtain ⟨y, hy⟩ := HX.out
          rw [← hy] at g0
          have HY : Hid (y = ms.getD k m3z) := hy
          clear hy HX hcell
          have hwz : w.heap.size < wr.heap.size := by omega
          have h14 := fun u (hu : Below w.heap.size w u) => T.c105 (some ⟨bf, off, none⟩) cap fs y.nm u hl (T.files_below HAT.out hu)
          go_wp2_with fail
          refine wp_region_held_drew (S := (fun u => u.cell? ⟨w.heap.size, 0, none⟩ = some (.slice (some ⟨bf, off, none⟩) fs.length cap) ∧ u.cell? ⟨bm, om + k * 3, none⟩ = some (.string y.nm))) (by kernel_rfl) ?_ (fun hHeld => ?_)
          · ((try dsimp only); go_keep)
          refine tk (i := 0) (oi := ⟨some 33, .move (.tmp 5), 4, _, _, none⟩) (v := ?_) rfl (by kernel_rfl) rfl ?e hHeld ?_
          case e => intro wq hSw; (try dsimp only at hSw); go_simp; try with_reducible rfl
          try simp only [qq]
          refine tk (i := 1) (oi := ⟨some 34, .move (.tmp 33), 4, _, _, none⟩) (v := ?_) rfl (by kernel_rfl) rfl ?e hHeld ?_
          case e => intro wq hSw; (try dsimp only at hSw); go_simp; try with_reducible rfl
          try simp only [qq]
          refine tk (i := 2) (oi := ⟨some 35, .load 49 (.tmp 1), 49, _, _, some (1, true)⟩) (v := ?_) rfl (by kernel_rfl) rfl ?e hHeld ?_
          case e => intro wq hSw; (try dsimp only at hSw); go_simp; try with_reducible rfl
          try simp only [qq]
          refine tk (i := 3) (oi := ⟨some 36, .move (.tmp 4), 95, _, _, some (1, true)⟩) (v := ?_) rfl (by kernel_rfl) rfl ?e hHeld ?_
          case e => intro wq hSw; (try dsimp only at hSw); go_simp; try with_reducible rfl
          try simp only [qq]
          refine tk (i := 4) (oi := ⟨some 37, .move (.tmp 6), 3, _, _, some (1, true)⟩) (v := ?_) rfl (by kernel_rfl) rfl ?e hHeld ?_
          case e => intro wq hSw; (try dsimp only at hSw); go_simp; try with_reducible rfl
          try simp only [qq]
          refine tk (i := 5) (oi := ⟨some 38, .indexAddr 95 (.tmp 36) (.tmp 37), 0, _, _, some (1, true)⟩) (v := ?_) rfl (by kernel_rfl) rfl ?e hHeld ?_
          case e => intro wq hSw; (try dsimp only at hSw); go_simp; try with_reducible rfl
          try simp only [qq]
          refine tk (i := 6) (oi := ⟨some 39, .fieldAddr 51 (.tmp 38) 0, 0, _, _, some (1, true)⟩) (v := ?_) rfl (by kernel_rfl) rfl ?e hHeld ?_
          case e => intro wq hSw; (try dsimp only at hSw); go_simp; try with_reducible rfl
          try simp only [qq]
          refine tk (i := 7) (oi := ⟨some 40, .load 9 (.tmp 39), 9, _, _, some (1, true)⟩) (v := ?_) rfl (by kernel_rfl) rfl ?e hHeld ?_
          case e => intro wq hSw; (try dsimp only at hSw); go_simp; try with_reducible rfl
          try simp only [qq]
          refine rd (i := 8) (o := ⟨some 41, .call ⟨.value (.func 105), #[.tmp 35, .tmp 40], #[49, 9]⟩, 3, _, _, some (1, true)⟩) rfl (by kernel_rfl) (fun K hK => ?_)
          go_simp
          refine (h14 _ hBr.drew).mono ?_
          rintro e w4 ⟨⟨r4, rfl, hr4⟩, hb4⟩
          have HB4 : Hid (Below wr.heap.size wr w4) := (Below.refl _ _).drew.trans hb4
          have HR4 : Hid ((r4 = -1 ∧ ∀ i, i < fs.length → (fs.getD i f2z).nm ≠ y.nm) ∨ ∃ i : Nat, r4 = i ∧ i < fs.length ∧ (fs.getD i f2z).nm = y.nm) := hr4
          clear hr4
          have e1 := (HB4.out.cell (p := ⟨w.heap.size, 0, none⟩) (by exact hwz)).trans tr
          have e2 := (HB4.out.cell (p := ⟨bm, om + k * 3, none⟩) (by exact hbmw)).trans g0
          go_wp2_with fail
          clear hHeld
          refine hK.out _ _ ?_ (fun hHeld => ?_)
          · ((try dsimp only); go_keep)
          clear hK K
          try simp only [qq]
          refine tk (i := 9) (oi := ⟨some 42, .binOp .lss 3 (.tmp 41) (.const (.int .i64 0)) 3, 4, _, _, some (1, true)⟩) (v := ?_) rfl (by kernel_rfl) rfl ?e hHeld ?_
          case e => intro wq hSw; (try dsimp only at hSw); go_simp; try with_reducible rfl
          try simp only [qq]
          refine tk (i := 10) (oi := ⟨some 43, .pick (.tmp 34) (.tmp 42) (.const (.bool false)), 4, _, _, none⟩) (v := ?_) rfl (by kernel_rfl) rfl ?e hHeld ?_
          case e => intro wq hSw; (try dsimp only at hSw); go_simp; try with_reducible rfl
          try simp only [qq]
          refine tk (i := 11) (oi := ⟨some 5, .assign (.tmp 43), 4, _, _, none⟩) (v := ?_) rfl (by kernel_rfl) rfl ?e hHeld ?_
          case e => intro wq hSw; (try dsimp only at hSw); go_simp; try with_reducible rfl
          try simp only [qq]
          refine wpAnyH_done (by kernel_rfl) ?_ _
          clear hHeld
          have hb3r : Below w3.heap.size w3 w4 := hbr.trans (HB4.out.mono hzr)
          have HF : Hid (decide (r4 < 0) = true ↔ ok = true ∧ ∀ j, j < k + 1 → Free fs (ms.getD j m3z).nm) := by
           constructor
           · intro h
             have h := of_decide_eq_true h
             refine ⟨(hfr.out.1 (by first | rfl | trivial)).1, fun j hj => ?_⟩
             rcases Nat.lt_or_ge j k with h1 | h1
             · exact (hfr.out.1 (by first | rfl | trivial)).2 j h1
             · obtain rfl : j = k := by omega
               rw [← HY.out]
               rcases HR4.out with ⟨_, h2⟩ | ⟨i4, h2, _⟩
               · exact h2
               · omega
           · intro h
             apply decide_eq_true
             rcases HR4.out with ⟨h2, _⟩ | ⟨i4, h2, h3, h4⟩
             · omega
             · exact absurd (by rw [← HY.out]; exact h4) (h.2 k (by omega) i4 h3)
          go_wp2
          go_roundw
          case rel => exact ⟨k + 1, decide (r4 < 0), by omega, by go_num, rfl, HF, hb3r⟩
          case measure => simp [intOf]; omega
      · obtain rfl : k = ms.length := by omega
        cases b
        · have HR : Hid (IsPT fs []) := HNO.out _ _ HP.out (fun h => by have := hfr.out.2 h; cases this)
          clear HNO HYES
          go_wp2
          go_ret
          exact ⟨⟨[], _, _, rfl, .inl rfl, HR.out⟩, hBr.alloc hBr.size _⟩
        · obtain ⟨h1, h2⟩ := hfr.out.1 rfl
          subst h1
          have HR : Hid (IsPT fs ms) := HYES.out _ HP.out h2
          have HATR : Hid (MksAt wr am ms) := mks_below HATM.out hbr
          clear HNO HYES h2
          go_wp2
          go_ret
          exact ⟨⟨ms, _, _, rfl, HATR.out, HR.out⟩, hBr⟩
end Go.Proofs.YtboojefodbjbcaaGreatDoor.G
namespace Go.Proofs.YtboojefodbjbcaaGreatDoor.G
open Go.RowKit
open T (F2 f2z FilesAt Asc files_below treeOk lt lt_trans')
theorem asc_plan {ms : List M3} (h : planOk ms = true) : AscM ms := by
 have h2 := ((plan_iff ms).1 h).2
 have step : ∀ j, j + 1 < ms.length → lt (ms.getD j m3z).nm (ms.getD (j + 1) m3z).nm = true := fun j hj => by
  have := h2 (j + 1) hj
  unfold stepM at this
  simp only [Bool.and_eq_true, Bool.or_eq_true, decide_eq_true_eq] at this
  rcases this.2 with h | h
  · omega
  · exact h
 intro i j hij
 induction j with
 | zero => omega
 | succ j ih =>
  intro hj
  rcases Nat.lt_or_ge i j with h1 | h1
  · exact lt_trans' (ih h1 (by omega)) (step j hj)
  · obtain rfl : i = j := by omega
    exact step i hj
theorem asc_nil : AscM [] := fun _ _ _ h => absurd h (Nat.not_lt_zero _)
theorem isPT_asc {fs : List F2} {ms : List M3} (h : IsPT fs ms) : AscM ms := by
 rcases h with ⟨_, rfl⟩ | ⟨_, _, rfl⟩ | ⟨_, i, hi, hn, ks, ok, hp, hr⟩
 · exact asc_nil
 · exact asc_nil
 · rcases hr with ⟨rfl, _, rfl⟩ | ⟨_, rfl⟩
   · exact asc_plan (hp.1 rfl).1
   · exact asc_nil
end Go.Proofs.YtboojefodbjbcaaGreatDoor.G
namespace Go.Proofs.YtboojefodbjbcaaGreatDoor.G
open Go.RowKit
open T (F2 f2z FilesAt Asc files_below treeOk lt lt_trans')
theorem rzN {w u : World} {v : Value} (hb : Below (w.heap.size + 2) ((w.alloc (.cells #[v] 49)).alloc (.cells #[.string ⟨#[]⟩, .string ⟨#[]⟩, .string ⟨#[]⟩] 51)) u) :
 (u.cell? ⟨w.heap.size + 1, 0, none⟩ = some (.string ⟨#[]⟩) ∧ u.cell? ⟨w.heap.size + 1, 1, none⟩ = some (.string ⟨#[]⟩) ∧ u.cell? ⟨w.heap.size + 1, 2, none⟩ = some (.string ⟨#[]⟩)) ∧ u.frozen? ⟨w.heap.size + 1, 0, none⟩ = false ∧ u.frozen? ⟨w.heap.size + 1, 1, none⟩ = false ∧ u.frozen? ⟨w.heap.size + 1, 2, none⟩ = false := by
 have c : ∀ b j, b < w.heap.size + 2 → u.cell? ⟨b, j, none⟩ = ((w.alloc (.cells #[v] 49)).alloc (.cells #[.string ⟨#[]⟩, .string ⟨#[]⟩, .string ⟨#[]⟩] 51)).cell? ⟨b, j, none⟩ := fun b j h => hb.cell (by exact h)
 have f : ∀ b j, b < w.heap.size + 2 → u.frozen? ⟨b, j, none⟩ = ((w.alloc (.cells #[v] 49)).alloc (.cells #[.string ⟨#[]⟩, .string ⟨#[]⟩, .string ⟨#[]⟩] 51)).frozen? ⟨b, j, none⟩ := fun b j h => hb.frozen (by exact h)
 rw [c _ _ (by omega), c _ _ (by omega), c _ _ (by omega), f _ _ (by omega), f _ _ (by omega), f _ _ (by omega)]
 simp [go_sem]
def Is16 (fs : List F2) (nm : ByteArray) (e : Ending) : Prop := ∃ ms, IsPT fs ms ∧ Is42 ms nm e
set_option maxHeartbeats 2000000 in
theorem c106 (a : Option Addr) (cap : Nat) (fs : List F2) (nm : ByteArray) (w : World) (hl : fs.length ≤ 1048576) (hs : ∀ i, (fs.getD i f2z).le 1048576) (hat : FilesAt w a fs) :
 Calls Tryz.prog 106 #[.agg #[.slice a fs.length cap], .string nm] w fun e w' => Is16 fs nm e ∧ Below w.heap.size w w' := by
 have h33 := fun u (hb : Below w.heap.size w u) => c121 a cap fs u hl hs (files_below hat hb)
 have hB0 : ∀ o1 o2, Below w.heap.size w ((w.alloc o1).alloc o2) := fun o1 o2 => ((Below.refl _ _).alloc (Nat.le_refl _) _).alloc (by simp) _
 go_enter Tryz.func106, Tryz.ntmps106
 go_wp2_with fail
 refine (h33 _ (hB0 _ _)).mono ?_
 rintro e w1 ⟨⟨ms, a1, cap1, rfl, hm1, hpt⟩, hb1⟩
 have hB1 : Below w.heap.size w w1 := (hB0 _ _).trans (hb1.mono (by simp; omega))
 have hx1 : Below (w.heap.size + 2) ((w.alloc (.cells #[.slice a fs.length cap] 49)).alloc (.cells #[.string ⟨#[]⟩, .string ⟨#[]⟩, .string ⟨#[]⟩] 51)) w1 := by have h := hb1; simp at h; exact h
 obtain ⟨⟨z0, z1, z2⟩, y0, y1, y2⟩ := rzN hx1
 have hlm := isPT_len hpt
 obtain ⟨b, off, hc⟩ := mks_some hm1
 have HC : Hid (ms = [] ∨ (a1 = some ⟨b, off, none⟩ ∧ b < w1.heap.size ∧ ∀ i, i < ms.length → w1.cell? ⟨b, off + i * 3, none⟩ = some (.string (ms.getD i m3z).nm) ∧ w1.cell? ⟨b, off + i * 3 + 1, none⟩ = some (.string (ms.getD i m3z).tl) ∧ w1.cell? ⟨b, off + i * 3 + 2, none⟩ = some (.string (ms.getD i m3z).ar))) := hc
 have HP : Hid (IsPT fs ms) := hpt
 clear hc hm1 hpt h33 hb1 hx1 hat hs
 go_wp2_with fail
 go_loop [7] (fun i => ∃ k : Nat, k ≤ ms.length ∧ i = .int .i64 k ∧ Hid (∀ j, j < k → (ms.getD j m3z).nm ≠ nm)) (fun i => ms.length - (intOf i).toNat)
 case atStart => exact ⟨0, Nat.zero_le _, rfl, fun j h => absurd h (Nat.not_lt_zero _)⟩
 case round =>
  obtain ⟨k, hk, rfl, hno⟩ := hrel
  by_cases hlt : k < ms.length
  · rcases HC.out with hss | ⟨ha, hbw, hcell⟩
    · rw [hss] at hlt; exact absurd hlt (Nat.not_lt_zero _)
    subst ha
    obtain ⟨g0, g1, g2⟩ := hcell k hlt
    have HX : Hid (∃ x, x = ms.getD k m3z) := ⟨_, rfl⟩
    obtain ⟨x, hx⟩ := HX.out
    rw [← hx] at g0 g1 g2
    have HXE : Hid (x = ms.getD k m3z) := hx
    clear hcell hx HX
    cases hq : (x.nm.toList == nm.toList)
    · have hno' : Hid (∀ j, j < k + 1 → (ms.getD j m3z).nm ≠ nm) := fun j hj => by
       rcases Nat.lt_or_ge j k with h | h
       · exact hno.out j h
       · obtain rfl : j = k := by omega
         rw [← HXE.out]
         intro e
         rw [e] at hq
         simp at hq
      go_wp2
      go_round
      case rel => exact ⟨k + 1, by omega, by go_num, hno'⟩
      case measure => simp [intOf]; omega
    · have he : x.nm = nm := by
       have := beq_iff_eq.1 hq
       rw [ByteArray.toList_eq, ByteArray.toList_eq] at this
       exact ByteArray.ext (Array.toList_inj.1 this)
      have HI : Hid (Is16 fs nm (.returned (.tuple #[.agg #[.string x.nm, .string x.tl, .string x.ar], .bool true]))) := ⟨ms, HP.out, x, true, rfl, .inl ⟨rfl, k, hlt, HXE.out.symm, he⟩⟩
      clear he
      go_wp2
      have F := set3_at w1 (w.heap.size + 1) 0 (.string x.nm) (.string x.tl) (.string x.ar) _ _ _ z0 z1 z2
      refine bodyPost_ret (v := .tuple #[.agg #[.string x.nm, .string x.tl, .string x.ar], .bool true]) (by simp [results, Tryz.results106, go_sem, F.1, F.2.1, F.2.2]) rfl ⟨HI.out, ?_⟩
      exact ((hB1.setCell (by simp) _).setCell (by simp) _).setCell (by simp) _
  · have HI : Hid (Is16 fs nm (.returned (.tuple #[.agg #[.string ⟨#[]⟩, .string ⟨#[]⟩, .string ⟨#[]⟩], .bool false]))) := ⟨ms, HP.out, ⟨⟨#[]⟩, ⟨#[]⟩, ⟨#[]⟩⟩, false, rfl, .inr ⟨rfl, fun j hj => hno.out j (by omega)⟩⟩
    go_wp2
    have F := set3_at w1 (w.heap.size + 1) 0 (.string ⟨#[]⟩) (.string ⟨#[]⟩) (.string ⟨#[]⟩) _ _ _ z0 z1 z2
    refine bodyPost_ret (v := .tuple #[.agg #[.string ⟨#[]⟩, .string ⟨#[]⟩, .string ⟨#[]⟩], .bool false]) (by simp [results, Tryz.results106, go_sem, F.1, F.2.1, F.2.2]) rfl ⟨HI.out, ?_⟩
    exact ((hB1.setCell (by simp) _).setCell (by simp) _).setCell (by simp) _
end Go.Proofs.YtboojefodbjbcaaGreatDoor.G
namespace Go.Proofs.YtboojefodbjbcaaGreatDoor.G
open Go.RowKit
open T (F2 f2z FilesAt Asc files_below treeOk)
def Is18 (fs : List F2) (nm : ByteArray) (e : Ending) : Prop := ∃ r, e = .returned (.bool r) ∧ ((∃ i, i < fs.length ∧ (fs.getD i f2z).nm = nm) ∧ r = true ∨ ∃ ms, IsPT fs ms ∧ Is44 fs ms nm e)
set_option maxHeartbeats 2000000 in
theorem c70 (a : Option Addr) (cap : Nat) (fs : List F2) (nm : ByteArray) (w : World) (hl : fs.length ≤ 1048576) (hs : ∀ i, (fs.getD i f2z).le 1048576) (hat : FilesAt w a fs) :
 Calls Tryz.prog 70 #[.agg #[.slice a fs.length cap], .string nm] w fun e w' => Is18 fs nm e ∧ Below w.heap.size w w' := by
 have hB0 : ∀ o1, Below w.heap.size w (w.alloc o1) := fun o1 => (Below.refl _ _).alloc (Nat.le_refl _) _
 have h34 := fun u (hb : Below w.heap.size w u) => T.c105 a cap fs nm u hl (files_below hat hb)
 have h16 := fun u (hb : Below w.heap.size w u) => c106 a cap fs nm u hl hs (files_below hat hb)
 clear hat hs
 go_enter Tryz.func70, Tryz.ntmps70
 go_wp2_with fail
 refine (h34 _ (hB0 _)).mono ?_
 rintro e w1 ⟨⟨r, rfl, hr⟩, hb1⟩
 have hB1 : Below w.heap.size w w1 := (hB0 _).trans (hb1.mono (by simp))
 have t0 : w1.cell? ⟨w.heap.size, 0, none⟩ = some (.slice a fs.length cap) := (hb1.cell (p := ⟨w.heap.size, 0, none⟩) (by simp)).trans (by simp [go_sem])
 clear hb1 h34
 rcases hr with ⟨rfl, hf⟩ | ⟨i, rfl, hi, hn⟩
 · have HF : Hid (Free fs nm) := hf
   clear hf
   go_wp2_with fail
   refine (h16 _ hB1).mono ?_
   rintro e w2 ⟨⟨ms, hpt, x, g, rfl, hx⟩, hb2⟩
   have hB2 : Below w.heap.size w w2 := hB1.trans (hb2.mono hB1.size)
   have HI : Hid (Is18 fs nm (.returned (.bool g))) := ⟨g, rfl, .inr ⟨ms, hpt, g, rfl, by
    rcases hx with ⟨rfl, i, hi, rfl, hn⟩ | ⟨rfl, hf⟩
    · exact ⟨fun _ c => c.2 i hi hn, fun _ => rfl⟩
    · exact ⟨(fun h => by cases h), fun c => absurd ⟨HF.out, hf⟩ c⟩⟩⟩
   clear hx h16
   go_wp2
   go_ret
   first
    | exact ⟨HI.out, hB2⟩
    | exact ⟨HI.out, hB2.alloc hB2.size _⟩
 · have HI : Hid (Is18 fs nm (.returned (.bool true))) := ⟨true, rfl, .inl ⟨⟨i, hi, hn⟩, rfl⟩⟩
   clear h16 hn
   go_wp2
   go_ret
   exact ⟨HI.out, hB1⟩
end Go.Proofs.YtboojefodbjbcaaGreatDoor.G
namespace Go.Proofs.YtboojefodbjbcaaGreatDoor.G
open Go.RowKit
open T (F2 f2z FilesAt Asc files_below treeOk)
end Go.Proofs.YtboojefodbjbcaaGreatDoor.G
