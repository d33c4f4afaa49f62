import Derived.Test.YtboojefodbjbcaaGreatDoorZR00
import Derived.Test.YtboojefodbjbcaaGreatDoorZR33
namespace Go.Proofs.YtboojefodbjbcaaGreatDoor
open Go.RowKit Go.Maps
set_option maxRecDepth 100000
set_option linter.unusedVariables false
noncomputable def tryK (W : Int) (see : Bool → ByteArray → Option (Int × ByteArray)) : List G3 → List L4 → Option (List L4 × Option ByteArray)
 | [], ls => some (ls, none)
 | g :: r, ls => match see g.nm g.tl with
  | none => some (ls, some g.tl)
  | some p => if g.ar = sumS (glT ⟨g.nm, g.tl, p.1, p.2⟩) W then tryK W see r (ls ++ [⟨g.nm, g.tl, p.1, p.2⟩]) else none
theorem tryK_cons (W : Int) (see : Bool → ByteArray → Option (Int × ByteArray)) (g : G3) (r : List G3) (ls : List L4) : tryK W see (g :: r) ls = match see g.nm g.tl with
 | none => some (ls, some g.tl)
 | some p => if g.ar = sumS (glT ⟨g.nm, g.tl, p.1, p.2⟩) W then tryK W see r (ls ++ [⟨g.nm, g.tl, p.1, p.2⟩]) else none := rfl
def lC (ls : List L4) : List Value := ls.flatMap fun x => [.bool x.has, .string x.nm, .int .i64 x.cd, .string x.tx]
theorem lC_snoc (ls : List L4) (x : L4) : lC (ls ++ [x]) = lC ls ++ [.bool x.has, .string x.nm, .int .i64 x.cd, .string x.tx] := by simp [lC]
theorem drop_gl {gs : List G3} {k : Nat} (h : k < gs.length) : gs.drop k = gs.getD k g3z :: gs.drop (k + 1) := by
 rw [List.drop_eq_getElem_cons h]
 simp [List.getD, List.getElem?_eq_getElem h]
theorem glT_size {x : L4} (h : x.tx.size ≤ 1048600) : (glT x).size ≤ 1048700 := by
 unfold glT
 split
 · split <;> decide
 · rw [ofL_size]
   unfold formR
   split
   · have e : x.tx.data.toList.length = x.tx.size := by simp
     simp only [List.length_cons, e]
     omega
   · simp
theorem info108' : (Tryz.prog.info? 108).map (fun i => (i.zero, i.size, i.bytes)) = some (some (.agg #[.bool false, .string ⟨#[]⟩, .int .i64 0, .string ⟨#[]⟩]), 4, 48) := by kernel_rfl
def Is92 (base : Nat) (o : Option (List L4 × Option ByteArray)) (w' : World) (e : Ending) : Prop := match o with
 | none => e = .returned (.tuple #[.slice none 0 0, .string ⟨#[]⟩, .bool false])
 | some (ls, q) => ∃ v, e = .returned (.tuple #[v, .string (q.getD ⟨#[]⟩), .bool q.isNone]) ∧ w'.ownsRow base 108 4 v ls.length (lC ls)
set_option maxHeartbeats 4000000 in
theorem c92 (H : Nat) (W : Int) (bt bp bm : Nat) (fs : List G.T.F2) (ms : List G.M3) (ds : List G.D8) (gs : List G3) (a : Option Addr) (cap : Nat) (w : World) (hH : H < w.heap.size) (hW : w.cell? ⟨H, 0, none⟩ = some (.int .i64 W)) (hS : See bt bp bm fs ms ds w) (ht : G.T.treeOk fs) (hp : G.IsPT fs ms) (hl : gs.length ≤ 1048576) (hg : ∀ i, i < gs.length → (gs.getD i g3z).tl.size ≤ 1048576) (hr : ∀ has nm r, nm.size ≤ 1048576 → sightF fs ms ds has nm = some r → r.2.size ≤ 1048576) (hat : GlsAt w a gs) :
 Calls Tryz.prog 92 #[.pointer (some ⟨H, 0, none⟩), .slice a gs.length cap, .func (.func 47) #[] #[.pointer (some ⟨bt, 0, none⟩), .pointer (some ⟨bp, 0, none⟩), .pointer (some ⟨bm, 0, none⟩)]] w fun e w' => Is92 w.heap.size (tryK W (sightF fs ms ds) gs []) w' e ∧ Below w.heap.size w w' := by
 obtain ⟨i0, hi, hz0, hz1, hz2⟩ := info_parts' info108'
 obtain ⟨b, off, hc⟩ := gls_some hat
 have HC := hidI hc
 have HS := hidI hS
 have HG := hidI hg
 have HR := hidI hr
 have HT := hidI ht
 have HP := hidI hp
 clear hc hat hS hg hr ht hp
 go_enter Tryz.func92, Tryz.ntmps92
 go_wp2_with fail
 go_loopw [6, 16] (fun v i wr => ∃ (k : Nat) (ls : List L4), k ≤ gs.length ∧ i = .int .i64 k ∧ ls.length = k ∧ Hid (tryK W (sightF fs ms ds) gs [] = tryK W (sightF fs ms ds) (gs.drop k) ls) ∧ Hid (wr.ownsRow w.heap.size 108 4 v ls.length (lC ls)) ∧ Below w.heap.size w wr) (fun _ i _ => gs.length - (Go.RowKit.intOf i).toNat)
 case atStart => exact ⟨0, [], Nat.zero_le _, rfl, rfl, hidI rfl, World.ownsRow_nil _ _ _ _, Below.refl _ _⟩
 case round =>
  obtain ⟨k, ls, hk, rfl, hll, HK, HO, hb⟩ := hrel
  subst hll
  obtain ⟨av, cv, rfl⟩ := row_form HO.out
  by_cases hlt : ls.length < gs.length
  · rcases HC.out with hss | ⟨ha, hbw, hcell⟩
    · rw [hss] at hlt; exact absurd hlt (Nat.not_lt_zero _)
    subst ha
    have g0 := (hb.cell (p := ⟨b, off + ls.length * 3, none⟩) hbw).trans (hcell ls.length hlt).1
    have g1 := (hb.cell (p := ⟨b, off + ls.length * 3 + 1, none⟩) hbw).trans (hcell ls.length hlt).2.1
    have g2 := (hb.cell (p := ⟨b, off + ls.length * 3 + 2, none⟩) hbw).trans (hcell ls.length hlt).2.2
    have hgs := HG.out ls.length hlt
    have HD := HK.out
    rw [drop_gl hlt] at HD
    clear hcell HK
    generalize gs.getD ls.length g3z = g at *
    have HDD := hidI HD
    clear HD
    have b1 : Below wr.heap.size wr (wr.alloc (.cells #[.bool g.nm, .string g.tl, .string g.ar] 127)) := (Below.refl _ _).alloc (Nat.le_refl _) _
    have hB1 : Below w.heap.size w (wr.alloc (.cells #[.bool g.nm, .string g.tl, .string g.ar] 127)) := hb.trans (b1.mono hb.size)
    have E1 := hidI (blk_new wr [.bool g.nm, .string g.tl, .string g.ar] 127)
    have O1 := hidI (own_below HO.out b1)
    have S1 := hidI (HS.out.below hB1)
    have sz1 : (wr.alloc (.cells #[.bool g.nm, .string g.tl, .string g.ar] 127)).heap.size = wr.heap.size + 1 := by simp
    have k0 := E1.out 0 _ rfl
    have k1 := E1.out 1 _ rfl
    clear HO
    go_wp2_with fail
    generalize (wr.alloc (.cells #[.bool g.nm, .string g.tl, .string g.ar] 127)) = U1 at *
    refine (c47 bt bp bm fs ms ds g.nm g.tl _ S1.out HT.out HP.out hgs).mono ?_
    rintro e w2 ⟨he, hb2⟩
    unfold Is47 at he
    have hB2 : Below w.heap.size w w2 := hB1.trans (hb2.mono hB1.size)
    have E2 := hidI (E1.out.below hb2 (by omega))
    have O2 := hidI (own_below O1.out hb2)
    have sz2 : wr.heap.size + 1 ≤ w2.heap.size := by rw [← sz1]; exact hb2.size
    have hzb := hb.size
    clear hb2 E1 O1 S1 hB1 k0 k1 g0 g1 g2
    cases hq : sightF fs ms ds g.nm g.tl with
    | none =>
     rw [hq] at he
     simp only [Option.getD_none, Option.isSome_none] at he
     subst he
     have HF : Hid (tryK W (sightF fs ms ds) gs [] = some (ls, some g.tl)) := by
      have h := HDD.out
      unfold Hid
      rw [h]
      unfold tryK
      rw [hq]
     clear HDD
     have b3 : Below w2.heap.size w2 (w2.alloc (.cells #[.int .i64 0, .string ⟨#[]⟩] 37)) := (Below.refl _ _).alloc (Nat.le_refl _) _
     have k1 := E2.out.below b3 (by omega) 1 _ rfl
     have O3 := hidI (own_below O2.out (b3.trans (Below.refl _ _).drew))
     have hB3 : Below w.heap.size w (w2.alloc (.cells #[.int .i64 0, .string ⟨#[]⟩] 37)) := hB2.trans (b3.mono hB2.size)
     go_wp2_with fail
     generalize (w2.alloc (.cells #[.int .i64 0, .string ⟨#[]⟩] 37)) = U3 at *
     go_region
     all_goals go_wp2
     all_goals refine bodyPost_ret (v := .tuple #[.slice av ls.length cv, .string g.tl, .bool false]) (by simp [results, Tryz.results92, go_sem]) rfl ⟨?_, hB3.drew⟩
     all_goals (rw [HF.out]; exact ⟨_, rfl, O3.out⟩)
    | some r =>
     obtain ⟨rc, rt⟩ := r
     rw [hq] at he
     simp only [Option.getD_some, Option.isSome_some] at he
     subst he
     have hrt : rt.size ≤ 1048576 := HR.out _ _ _ hgs hq
     have b3 : Below w2.heap.size w2 ((w2.alloc (.cells #[.int .i64 rc, .string rt] 37)).alloc (.cells #[.bool g.nm, .string g.tl, .int .i64 rc, .string rt] 108)) := ((Below.refl _ _).alloc (Nat.le_refl _) _).alloc (by simp) _
     have hB3 : Below w.heap.size w ((w2.alloc (.cells #[.int .i64 rc, .string rt] 37)).alloc (.cells #[.bool g.nm, .string g.tl, .int .i64 rc, .string rt] 108)) := hB2.trans (b3.mono hB2.size)
     have ER := hidI (blk_new w2 [.int .i64 rc, .string rt] 37)
     have k0 := (E2.out.below (N := w2.heap.size) ((Below.refl _ _).alloc (Nat.le_refl _) (.cells #[.int .i64 rc, .string rt] 37)) (by omega)) 0 _ rfl
     have k1 := (E2.out.below (N := w2.heap.size) ((Below.refl _ _).alloc (Nat.le_refl _) (.cells #[.int .i64 rc, .string rt] 37)) (by omega)) 1 _ rfl
     have q0 := ER.out 0 _ rfl
     have q1 := ER.out 1 _ rfl
     have szR : (w2.alloc (.cells #[.int .i64 rc, .string rt] 37)).heap.size = w2.heap.size + 1 := by simp
     have szL : ((w2.alloc (.cells #[.int .i64 rc, .string rt] 37)).alloc (.cells #[.bool g.nm, .string g.tl, .int .i64 rc, .string rt] 108)).heap.size = w2.heap.size + 2 := by simp
     have EL := blk_new (w2.alloc (.cells #[.int .i64 rc, .string rt] 37)) [.bool g.nm, .string g.tl, .int .i64 rc, .string rt] 108
     rw [szR] at EL
     have E3 := hidI (E2.out.below b3 (by omega))
     have O3 := hidI (own_below O2.out b3)
     have l0 := EL 0 _ rfl
     have l1 := EL 1 _ rfl
     have l2 := EL 2 _ rfl
     have l3 := EL 3 _ rfl
     have r0 := E3.out 0 _ rfl
     have r1 := E3.out 1 _ rfl
     have r2 := E3.out 2 _ rfl
     have hHL : H < ((w2.alloc (.cells #[.int .i64 rc, .string rt] 37)).alloc (.cells #[.bool g.nm, .string g.tl, .int .i64 rc, .string rt] 108)).heap.size := Nat.lt_of_lt_of_le hH hB3.size
     have hWL := (hB3.cell (p := ⟨H, 0, none⟩) hH).trans hW
     have h117 := fun u (hu : Below ((w2.alloc (.cells #[.int .i64 rc, .string rt] 37)).alloc (.cells #[.bool g.nm, .string g.tl, .int .i64 rc, .string rt] 108)).heap.size ((w2.alloc (.cells #[.int .i64 rc, .string rt] 37)).alloc (.cells #[.bool g.nm, .string g.tl, .int .i64 rc, .string rt] 108)) u) => c117 ⟨g.nm, g.tl, rc, rt⟩ W H u (by show rt.size ≤ _; omega) (Nat.lt_of_lt_of_le hHL hu.size) ((hu.cell (p := ⟨H, 0, none⟩) hHL).trans hWL) (glT_size (by show rt.size ≤ _; omega))
     simp only at h117
     clear E2 O2 ER
     have HF := HDD.out
     rw [tryK_cons, hq] at HF
     simp only at HF
     generalize hsm : sumS (glT ⟨g.nm, g.tl, rc, rt⟩) W = sm at *
     by_cases he : g.ar = sm
     · rw [if_pos he] at HF
       have HFF := hidI HF
       clear HF HDD hsm
       subst he
       go_wp2_with fail
       generalize ((w2.alloc (.cells #[.int .i64 rc, .string rt] 37)).alloc (.cells #[.bool g.nm, .string g.tl, .int .i64 rc, .string rt] 108)) = UL at *
       refine wp_region_held_drew (S := (fun u => (u.cell? ⟨w2.heap.size + 1, 0, none⟩ = some (.bool g.nm) ∧ u.cell? ⟨w2.heap.size + 1, 1, none⟩ = some (.string g.tl) ∧ u.cell? ⟨w2.heap.size + 1, 2, none⟩ = some (.int .i64 rc) ∧ u.cell? ⟨w2.heap.size + 1, 3, none⟩ = some (.string rt)) ∧ u.cell? ⟨wr.heap.size, 0, none⟩ = some (.bool g.nm) ∧ u.cell? ⟨wr.heap.size, 1, none⟩ = some (.string g.tl) ∧ u.cell? ⟨wr.heap.size, 2, none⟩ = some (.string g.ar))) (by kernel_rfl) ?_ (fun hHeld => ?_)
       · ((try dsimp only); first | exact ⟨⟨l0, l1, l2, l3⟩, r0, r1, r2⟩ | exact ⟨⟨(hb3.cell (p := ⟨w2.heap.size + 1, 0, none⟩) (by show w2.heap.size + 1 < UL.heap.size; omega)).trans l0, (hb3.cell (p := ⟨w2.heap.size + 1, 1, none⟩) (by show w2.heap.size + 1 < UL.heap.size; omega)).trans l1, (hb3.cell (p := ⟨w2.heap.size + 1, 2, none⟩) (by show w2.heap.size + 1 < UL.heap.size; omega)).trans l2, (hb3.cell (p := ⟨w2.heap.size + 1, 3, none⟩) (by show w2.heap.size + 1 < UL.heap.size; omega)).trans l3⟩, (hb3.cell (p := ⟨wr.heap.size, 0, none⟩) (by show wr.heap.size < UL.heap.size; omega)).trans r0, (hb3.cell (p := ⟨wr.heap.size, 1, none⟩) (by show wr.heap.size < UL.heap.size; omega)).trans r1, (hb3.cell (p := ⟨wr.heap.size, 2, none⟩) (by show wr.heap.size < UL.heap.size; omega)).trans r2⟩)
       refine tk (i := 0) (oi := ⟨some 40, .move (.tmp 0), 97, _, _, none⟩) (v := ?_) rfl (by kernel_rfl) rfl ?e hHeld ?_
       case e => intro wq hSw; (try dsimp only at hSw); go_simp; try with_reducible rfl
       try simp only [qq]
       refine tk (i := 1) (oi := ⟨some 41, .load 108 (.tmp 13), 108, _, _, none⟩) (v := ?_) rfl (by kernel_rfl) rfl ?e hHeld ?_
       case e => intro wq hSw; (try dsimp only at hSw); go_simp; try with_reducible rfl
       try simp only [qq]
       refine tk (i := 3) (oi := ⟨some 43, .load 127 (.tmp 10), 127, _, _, none⟩) (v := ?_) rfl (by kernel_rfl) rfl ?e hHeld ?_
       case e => intro wq hSw; (try dsimp only at hSw); go_simp; try with_reducible rfl
       try simp only [qq]
       refine rd (i := 2) (o := ⟨some 42, .call ⟨.value (.func 117), #[.tmp 40, .tmp 41], #[97, 108]⟩, 127, _, _, none⟩) rfl (by kernel_rfl) (fun K hK => ?_)
       go_simp
       refine (h117 _ (Below.refl _ _).drew).mono ?_
       rintro e w3 ⟨rfl, hb30⟩
       have hb3 := (Below.refl UL.heap.size UL).drew.trans hb30
       go_wp2_with fail
       clear hHeld
       refine hK.out _ _ ?_ (fun hHeld => ?_)
       · ((try dsimp only); first | exact ⟨⟨l0, l1, l2, l3⟩, r0, r1, r2⟩ | exact ⟨⟨(hb3.cell (p := ⟨w2.heap.size + 1, 0, none⟩) (by show w2.heap.size + 1 < UL.heap.size; omega)).trans l0, (hb3.cell (p := ⟨w2.heap.size + 1, 1, none⟩) (by show w2.heap.size + 1 < UL.heap.size; omega)).trans l1, (hb3.cell (p := ⟨w2.heap.size + 1, 2, none⟩) (by show w2.heap.size + 1 < UL.heap.size; omega)).trans l2, (hb3.cell (p := ⟨w2.heap.size + 1, 3, none⟩) (by show w2.heap.size + 1 < UL.heap.size; omega)).trans l3⟩, (hb3.cell (p := ⟨wr.heap.size, 0, none⟩) (by show wr.heap.size < UL.heap.size; omega)).trans r0, (hb3.cell (p := ⟨wr.heap.size, 1, none⟩) (by show wr.heap.size < UL.heap.size; omega)).trans r1, (hb3.cell (p := ⟨wr.heap.size, 2, none⟩) (by show wr.heap.size < UL.heap.size; omega)).trans r2⟩)
       clear hK K
       try simp only [qq]
       refine tk (i := 4) (oi := ⟨some 44, .binOp .neq 127 (.tmp 42) (.tmp 43) 127, 4, _, _, none⟩) (v := ?_) rfl (by kernel_rfl) rfl ?e hHeld ?_
       case e => intro wq hSw; (try dsimp only at hSw); go_simp; try with_reducible rfl
       try simp only [qq]
       refine wpAnyH_done (by kernel_rfl) ?_ _
       have m0 := (hb3.cell (p := ⟨w2.heap.size + 1, 0, none⟩) (by show w2.heap.size + 1 < UL.heap.size; omega)).trans l0
       have m1 := (hb3.cell (p := ⟨w2.heap.size + 1, 1, none⟩) (by show w2.heap.size + 1 < UL.heap.size; omega)).trans l1
       have m2 := (hb3.cell (p := ⟨w2.heap.size + 1, 2, none⟩) (by show w2.heap.size + 1 < UL.heap.size; omega)).trans l2
       have m3 := (hb3.cell (p := ⟨w2.heap.size + 1, 3, none⟩) (by show w2.heap.size + 1 < UL.heap.size; omega)).trans l3
       have b4 : Below w3.heap.size w3 (w3.alloc (.cells #[.bool g.nm, .string g.tl, .int .i64 rc, .string rt] 108)) := (Below.refl _ _).alloc (Nat.le_refl _) _
       have H4 := hidI (own_below (own_below O3.out hb3) b4)
       have hB30 : Below w.heap.size w w3 := hB3.trans (hb3.mono hB3.size)
       have hB4 : Below w.heap.size w (w3.alloc (.cells #[.bool g.nm, .string g.tl, .int .i64 rc, .string rt] 108)) := hB30.trans (b4.mono hB30.size)
       have sz4 : (w3.alloc (.cells #[.bool g.nm, .string g.tl, .int .i64 rc, .string rt] 108)).heap.size = w3.heap.size + 1 := by simp
       have szw3 := hB30.size
       have HR4 : Hid (∀ j u, ([.bool g.nm, .string g.tl, .int .i64 rc, .string rt] : List Value)[j]? = some u → (w3.alloc (.cells #[.bool g.nm, .string g.tl, .int .i64 rc, .string rt] 108)).cell? ((⟨w3.heap.size, 0, none⟩ : Addr).add j) = some u) := fun j u hj => by
        rw [adr_add, Nat.zero_add]
        exact blk_new w3 [.bool g.nm, .string g.tl, .int .i64 rc, .string rt] 108 j u hj
       clear O3 E3 EL hb3 l0 l1 l2 l3 r0 r1 r2 k0 k1 q0 q1 hB3 b3 h117 b4
       go_wp2_with (refine wpList_app rfl (.tmp 45) (.tmp 47) 40 rfl w.heap.size 108 i0 (.agg #[.bool false, .string ⟨#[]⟩, .int .i64 0, .string ⟨#[]⟩]) 4 48 Tryz.underlying40 hi hz0 hz1 hz2 rfl (by decide) _ _ _ rfl H4.out ⟨w3.heap.size, 0, none⟩ 1 1 [.bool g.nm, .string g.tl, .int .i64 rc, .string rt] rfl rfl HR4.out (by simp [Value.oneCell']) (by unfold maxLen; omega) (by omega) (by omega) ?_; intro v2 w5 hO5 hgrow; obtain ⟨a5, c5, rfl⟩ := row_form hO5; have HO5 := hidI hO5; have hB5 : Below w.heap.size w w5 := hB4.grown hgrow (by omega) (fun q hq => own_blk H4.out hq); clear hO5 hgrow H4 HR4)
       go_roundw
       case rel => exact ⟨ls.length + 1, ls ++ [⟨g.nm, g.tl, rc, rt⟩], by omega, by go_num, by simp, HFF, by rw [lC_snoc, List.length_append]; exact HO5.out, hB5⟩
       case measure => simp [Go.RowKit.intOf]; omega
     · rw [if_neg he] at HF
       have HFF := hidI HF
       clear HF HDD hsm
       have he' := list_ne (fun h : sm = g.ar => he h.symm)
       clear he
       go_wp2_with fail
       generalize ((w2.alloc (.cells #[.int .i64 rc, .string rt] 37)).alloc (.cells #[.bool g.nm, .string g.tl, .int .i64 rc, .string rt] 108)) = UL at *
       refine wp_region_held_drew (S := (fun u => (u.cell? ⟨w2.heap.size + 1, 0, none⟩ = some (.bool g.nm) ∧ u.cell? ⟨w2.heap.size + 1, 1, none⟩ = some (.string g.tl) ∧ u.cell? ⟨w2.heap.size + 1, 2, none⟩ = some (.int .i64 rc) ∧ u.cell? ⟨w2.heap.size + 1, 3, none⟩ = some (.string rt)) ∧ u.cell? ⟨wr.heap.size, 0, none⟩ = some (.bool g.nm) ∧ u.cell? ⟨wr.heap.size, 1, none⟩ = some (.string g.tl) ∧ u.cell? ⟨wr.heap.size, 2, none⟩ = some (.string g.ar))) (by kernel_rfl) ?_ (fun hHeld => ?_)
       · ((try dsimp only); first | exact ⟨⟨l0, l1, l2, l3⟩, r0, r1, r2⟩ | exact ⟨⟨(hb3.cell (p := ⟨w2.heap.size + 1, 0, none⟩) (by show w2.heap.size + 1 < UL.heap.size; omega)).trans l0, (hb3.cell (p := ⟨w2.heap.size + 1, 1, none⟩) (by show w2.heap.size + 1 < UL.heap.size; omega)).trans l1, (hb3.cell (p := ⟨w2.heap.size + 1, 2, none⟩) (by show w2.heap.size + 1 < UL.heap.size; omega)).trans l2, (hb3.cell (p := ⟨w2.heap.size + 1, 3, none⟩) (by show w2.heap.size + 1 < UL.heap.size; omega)).trans l3⟩, (hb3.cell (p := ⟨wr.heap.size, 0, none⟩) (by show wr.heap.size < UL.heap.size; omega)).trans r0, (hb3.cell (p := ⟨wr.heap.size, 1, none⟩) (by show wr.heap.size < UL.heap.size; omega)).trans r1, (hb3.cell (p := ⟨wr.heap.size, 2, none⟩) (by show wr.heap.size < UL.heap.size; omega)).trans r2⟩)
       refine tk (i := 0) (oi := ⟨some 40, .move (.tmp 0), 97, _, _, none⟩) (v := ?_) rfl (by kernel_rfl) rfl ?e hHeld ?_
       case e => intro wq hSw; (try dsimp only at hSw); go_simp; try with_reducible rfl
       try simp only [qq]
       refine tk (i := 1) (oi := ⟨some 41, .load 108 (.tmp 13), 108, _, _, none⟩) (v := ?_) rfl (by kernel_rfl) rfl ?e hHeld ?_
       case e => intro wq hSw; (try dsimp only at hSw); go_simp; try with_reducible rfl
       try simp only [qq]
       refine tk (i := 3) (oi := ⟨some 43, .load 127 (.tmp 10), 127, _, _, none⟩) (v := ?_) rfl (by kernel_rfl) rfl ?e hHeld ?_
       case e => intro wq hSw; (try dsimp only at hSw); go_simp; try with_reducible rfl
       try simp only [qq]
       refine rd (i := 2) (o := ⟨some 42, .call ⟨.value (.func 117), #[.tmp 40, .tmp 41], #[97, 108]⟩, 127, _, _, none⟩) rfl (by kernel_rfl) (fun K hK => ?_)
       go_simp
       refine (h117 _ (Below.refl _ _).drew).mono ?_
       rintro e w3 ⟨rfl, hb30⟩
       have hb3 := (Below.refl UL.heap.size UL).drew.trans hb30
       go_wp2_with fail
       clear hHeld
       refine hK.out _ _ ?_ (fun hHeld => ?_)
       · ((try dsimp only); first | exact ⟨⟨l0, l1, l2, l3⟩, r0, r1, r2⟩ | exact ⟨⟨(hb3.cell (p := ⟨w2.heap.size + 1, 0, none⟩) (by show w2.heap.size + 1 < UL.heap.size; omega)).trans l0, (hb3.cell (p := ⟨w2.heap.size + 1, 1, none⟩) (by show w2.heap.size + 1 < UL.heap.size; omega)).trans l1, (hb3.cell (p := ⟨w2.heap.size + 1, 2, none⟩) (by show w2.heap.size + 1 < UL.heap.size; omega)).trans l2, (hb3.cell (p := ⟨w2.heap.size + 1, 3, none⟩) (by show w2.heap.size + 1 < UL.heap.size; omega)).trans l3⟩, (hb3.cell (p := ⟨wr.heap.size, 0, none⟩) (by show wr.heap.size < UL.heap.size; omega)).trans r0, (hb3.cell (p := ⟨wr.heap.size, 1, none⟩) (by show wr.heap.size < UL.heap.size; omega)).trans r1, (hb3.cell (p := ⟨wr.heap.size, 2, none⟩) (by show wr.heap.size < UL.heap.size; omega)).trans r2⟩)
       clear hK K
       try simp only [qq]
       refine tk (i := 4) (oi := ⟨some 44, .binOp .neq 127 (.tmp 42) (.tmp 43) 127, 4, _, _, none⟩) (v := ?_) rfl (by kernel_rfl) rfl ?e hHeld ?_
       case e => intro wq hSw; (try dsimp only at hSw); go_simp; try with_reducible rfl
       try simp only [qq]
       refine wpAnyH_done (by kernel_rfl) ?_ _
       go_wp2
       refine bodyPost_ret (v := .tuple #[.slice none 0 0, .string ⟨#[]⟩, .bool false]) (by simp [results, Tryz.results92, go_sem]) rfl ⟨by rw [HFF.out]; rfl, hB3.trans (hb3.mono hB3.size)⟩
  · have hke : ls.length = gs.length := by omega
    have HF : Hid (tryK W (sightF fs ms ds) gs [] = some (ls, none)) := by
     unfold Hid
     rw [HK.out, hke, List.drop_length]
     rfl
    go_wp2
    refine bodyPost_ret (v := .tuple #[.slice av ls.length cv, .string ⟨#[]⟩, .bool true]) (by simp [results, Tryz.results92, go_sem]) rfl ⟨?_, hb⟩
    rw [HF.out]
    exact ⟨_, rfl, HO.out⟩
end Go.Proofs.YtboojefodbjbcaaGreatDoor
