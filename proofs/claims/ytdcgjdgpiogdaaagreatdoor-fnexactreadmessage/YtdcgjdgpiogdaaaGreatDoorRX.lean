import Derived.Test.YtdcgjdgpiogdaaaGreatDoorG42
import Derived.Deep.RegionHeld3
namespace Go.Proofs.YtdcgjdgpiogdaaaGreatDoor
open Go.RowKit
set_option maxHeartbeats 16000000 in
set_option maxRecDepth 100000 in
theorem c17_here (s key : ByteArray) (w : World) (h9 : 9 ≤ s.size) (h16 : s.size ≤ 16000) (hk : key.size ≤ 1048576) (hw : wordOf ((cutS 10 (s.data.toList.drop 8)).getD 0 []) = wrdP 3) :
    Calls Tryz.prog 17 #[.string s, .string key] w fun e w' => Is17 s.data.toList key w' e ∧ Below w.heap.size w w' := by
  have hB0 : Below w.heap.size w (w.alloc (.cells zG.toArray 41)) := (Below.refl _ _).alloc (Nat.le_refl _) _
  have hsl : s.data.toList.length = s.size := by simp
  have HSL : Hid (9 ≤ s.data.toList.length) := by rw [hsl]; exact h9
  have hd8 : s.extract 8 s.size = ofL (s.data.toList.drop 8) := ext_ofL (by rw [ext_list, List.take_of_length_le (by omega)])
  have hdl : (ofL (s.data.toList.drop 8)).size = s.size - 8 := by rw [ofL_size, List.length_drop, hsl]
  have hld : (s.data.toList.drop 8).length ≤ 16000 := by rw [List.length_drop]; omega
  obtain ⟨i0, hi, hz0, hz1, hz2⟩ := info_parts info9
  have h9' : decide ((s.size : Int) < 9) = false := by simp; omega
  have h16' : decide (16000 < (s.size : Int)) = false := by simp; omega
  go_enter Tryz.func17, Tryz.ntmps17
  go_wp2_with fail
  refine (c45o (ofL (s.data.toList.drop 8)) 10 _ (by omega)).mono ?_
  rintro e w1 ⟨⟨g, cp, rfl, hown⟩, hb1⟩
  rw [ofL_list] at hown ⊢
  have hz1w : (w.alloc (.cells zG.toArray 41)).heap.size = w.heap.size + 1 := by simp
  have hown1 : w1.ownsRow (w.heap.size + 1) 9 1 (.slice (some ⟨g, 0, none⟩) (cutS 10 (s.data.toList.drop 8)).length cp) (cutS 10 (s.data.toList.drop 8)).length (strL (cutS 10 (s.data.toList.drop 8))) := by rw [← hz1w]; exact hown
  have hx1 : Below (w.heap.size + 1) (w.alloc (.cells zG.toArray 41)) w1 := hb1.mono (by simp)
  have hcl := cut_len 10 (s.data.toList.drop 8)
  have hcs := cut_small 10 (s.data.toList.drop 8)
  have hz1' : w.heap.size + 1 ≤ w1.heap.size := by have h := hx1.size; rw [hz1w] at h; exact h
  clear hown hb1 hd8 hdl
  obtain ⟨Ls, hLs⟩ : ∃ Ls, Ls = cutS 10 (s.data.toList.drop 8) := ⟨_, rfl⟩
  rw [← hLs] at hown1 hcl hcs hw ⊢
  have HLS : Hid (cutS 10 (s.data.toList.drop 8) = Ls) := hLs.symm
  have HCS : Hid (∀ k, (Ls.getD k []).length ≤ 16000) := fun k => Nat.le_trans (hcs k) hld
  obtain ⟨F, hF⟩ : ∃ F, F = Ls.getD 0 [] := ⟨_, rfl⟩
  have HF : Hid (Ls.getD 0 [] = F) := hF.symm
  have hFl : F.length ≤ 16000 := by rw [hF]; exact HCS.out 0
  rw [← hF] at hw
  clear hF hLs hcs
  have hcl1 : 1 ≤ Ls.length := hcl.1
  have hcl2 : Ls.length ≤ 16001 := by have := hcl.2; omega
  clear hcl hld
  generalize ofL (s.data.toList.drop 8) = bd at *
  go_wp2_with (at_builtin; refine wpList_append_own _ rfl _ _ 80 rfl (w.heap.size + 1) 9 i0 (.string ⟨#[]⟩) 1 16 Tryz.underlying80 hi hz0 hz1 hz2 rfl (by decide) _ _ _ rfl (hown1.alloc _) ⟨w1.heap.size, 0, none⟩ 1 1 [_] rfl rfl (cell_one_new _ _ _) (by intro u hu; simp at hu; subst hu; rfl) (by unfold maxLen; omega) (by omega) (by simp; omega) ?_; intro v' w2 hown2 hgrow _; have hx2 : Below (w.heap.size + 1) (w.alloc (.cells zG.toArray 41)) w2 := (hx1.alloc (by omega) _).grown hgrow (by simp; omega) (fun j hj => (hown1.lt j hj).1); have hz2w : w1.heap.size < w2.heap.size := (by have := hgrow.size; simp at this; omega); clear hgrow hown1; obtain ⟨g2, cp2, hvv⟩ := own_formF hown2 (by omega); subst hvv; have hl2 : LinesAt w2 g2 (Ls ++ [[]]) := lines_of_owns (by rw [strL_snoc]; exact hown2) (by simp); have c0 : w2.cell? ⟨g2, 0, none⟩ = some (.string (ofL F)) := (hl2.2 0 (by simp)).trans (by rw [← HF.out]; cases Ls with | nil => simp at hcl1 | cons a r => rfl); have c0a := past (p := ⟨g2, 0, none⟩) hl2.1 c0; have HG2 : Hid (w.heap.size + 1 ≤ g2 ∧ g2 < w2.heap.size) := (hown2.lt g2 rfl); have HL2 : Hid (LinesAt w2 g2 (Ls ++ [[]])) := hl2; clear hl2 hown2)
  refine (c46o F _ (by omega) 6 (by omega) (by omega)).mono ?_
  rintro e w3 ⟨⟨g3, cp3, rfl, hg3, hl3⟩, hb3⟩
  have hz2a : (w2.alloc (.cells #[.int .i64 0, .int .i64 0, .int .i64 0, .int .i64 0, .int .i64 0, .string ⟨#[]⟩, .string ⟨#[]⟩, .string ⟨#[]⟩, .slice none 0 0, .int .i64 0, .bool false, .int .i64 0, .string ⟨#[]⟩, .bool false, .string ⟨#[]⟩, .int .i64 0] 41)).heap.size = w2.heap.size + 1 := by simp
  have hz23 : w2.heap.size + 1 ≤ w3.heap.size := by have h := hb3.size; rw [hz2a] at h; exact h
  have hb23 : Below w2.heap.size w2 w3 := ((Below.refl _ _).alloc (Nat.le_refl _) _).trans (hb3.mono (by rw [hz2a]; omega))
  have hx3 : Below (w.heap.size + 1) (w.alloc (.cells zG.toArray 41)) w3 := hx2.trans (hb23.mono (by omega))
  obtain ⟨bR, oR⟩ := blk_keep (vs := zG) hx3
  have bM : BlkAt w3 w2.heap.size zG := BlkAt.below (blk_new w2 zG 41) hb3 (by rw [hz2a]; omega)
  have oM : OpnAt w3 w2.heap.size := OpnAt.below (opn_new w2 _ 41) hb3 (by rw [hz2a]; omega)
  have hL3 : Hid (LinesAt w3 g2 (Ls ++ [[]])) := lines_below HL2.out hb23
  have hB3 : Below w.heap.size w w3 := hB0.trans (hx3.mono (by omega))
  have hg3a : w2.heap.size < g3 := by rw [hz2a] at hg3; omega
  have hg3b : g3 < w3.heap.size := hl3.1
  have hg2a : w.heap.size < g2 ∧ g2 < w2.heap.size := ⟨by have := HG2.out.1; omega, HG2.out.2⟩
  have d0 : w3.cell? ⟨g3, 0, none⟩ = some (.string (ofL (wordOf (restN F 0)))) := hl3.2 0 (by simp [wordsN])
  have d1 : w3.cell? ⟨g3, 1, none⟩ = some (.string (ofL (wordOf (restN F 1)))) := hl3.2 1 (by simp [wordsN])
  have d2 : w3.cell? ⟨g3, 2, none⟩ = some (.string (ofL (wordOf (restN F 2)))) := hl3.2 2 (by simp [wordsN])
  have d3 : w3.cell? ⟨g3, 3, none⟩ = some (.string (ofL (wordOf (restN F 3)))) := hl3.2 3 (by simp [wordsN])
  have d4 : w3.cell? ⟨g3, 4, none⟩ = some (.string (ofL (wordOf (restN F 4)))) := hl3.2 4 (by simp [wordsN])
  have d5 : w3.cell? ⟨g3, 5, none⟩ = some (.string (ofL (wordOf (restN F 5)))) := hl3.2 5 (by simp [wordsN])
  have hRB : w.heap.size < w2.heap.size := by omega
  have hMz : w2.heap.size < w3.heap.size := by omega
  have hrl := restN_len F
  clear HL2 hl3 hg3 hb3 hb23 hx2 hx3 hx1 HG2 hz2a c0 c0a hz2w hz1' hz1w hz23
  generalize w2.heap.size = Bm at *
  have HW : Hid (wordOf F = wrdP 3) := hw
  have hes : ofL (wordOf (restN F 0)) = ⟨#[104, 101, 114, 101]⟩ := by
    show ofL (wordOf F) = _
    rw [hw]; rfl
  rw [hes] at d0
  clear hw hes
  have hF1 : (ofL (wordOf (restN F 1))).size ≤ 1048700 := by rw [ofL_size]; have h1 := (rest_small (restN F 1)).1; have h2 := hrl 1; omega
  go_wp2_with fail
  refine (c47 (ofL (wordOf (restN F 1))) _ hF1).mono ?_
  rintro e w4 ⟨rfl, hb4⟩
  rw [ofL_list]
  have HX : Hid (LsM s.data.toList (hereG (n29 (wordOf (restN F 1))))) := lsM_here (by rw [HLS.out]; exact HF.out) HW.out
  have bM4 := BlkAt.below bM hb4 hMz
  have oM4 := OpnAt.below oM hb4 hMz
  have bR4 := BlkAt.below bR hb4 (by omega)
  have oR4 := OpnAt.below oR hb4 (by omega)
  have hz4 : w3.heap.size ≤ w4.heap.size := hb4.size
  have hB4 : Below w.heap.size w w4 := hB3.trans (hb4.mono hB3.size)
  have HM : BlkAt (fill w4 Bm 0 ((hereG (n29 (wordOf (restN F 1)))).c none 0)) Bm ((hereG (n29 (wordOf (restN F 1)))).c none 0) := BlkAt.fill (B := Bm) _ [] zG [] 0 bM4 rfl rfl
  have HR : BlkAt (fill w4 Bm 0 ((hereG (n29 (wordOf (restN F 1)))).c none 0)) w.heap.size zG := BlkAt.fillO (by omega) _ 0 bR4
  have HO : OpnAt (fill w4 Bm 0 ((hereG (n29 (wordOf (restN F 1)))).c none 0)) w.heap.size := OpnAt.fill _ 0 oR4
  have hBU : Below w.heap.size w (fill w4 Bm 0 ((hereG (n29 (wordOf (restN F 1)))).c none 0)) := below_fill (by omega) _ 0 hB4
  have hMU : Bm < (fill w4 Bm 0 ((hereG (n29 (wordOf (restN F 1)))).c none 0)).heap.size := by rw [size_fill]; omega
  have hRU : w.heap.size < (fill w4 Bm 0 ((hereG (n29 (wordOf (restN F 1)))).c none 0)).heap.size := by rw [size_fill]; omega
  have HLK : LksAt (fill w4 Bm 0 ((hereG (n29 (wordOf (restN F 1)))).c none 0)) none (hereG (n29 (wordOf (restN F 1)))).ls := .inl rfl
  have hle : (hereG (n29 (wordOf (restN F 1)))).le 1048576 := ⟨⟨Nat.zero_le _, Nat.zero_le _, Nat.zero_le _⟩, ⟨Nat.zero_le _, fun _ => ⟨Nat.zero_le _, Nat.zero_le _⟩⟩, ⟨Nat.zero_le _, Nat.zero_le _⟩⟩
  have hAne : ∀ g o, (none : Option Addr) = some ⟨g, o, none⟩ → g ≠ w.heap.size := fun _ _ h => by cases h
  clear hb4 bM bR oM oR hB3
  have hmark : True := trivial
  go_wp2_with (refine wpList_store_blk rfl 41 (.tmp 7) (.tmp 144) rfl Bm 0 rfl ((hereG (n29 (wordOf (restN F 1)))).c none 0) rfl (blk_some bM4 _ rfl) oM4 (G16.c_one _ _ _) (by kernel_rfl) rfl ?_; revert hmark)
  intro _
  generalize fill w4 Bm 0 ((hereG (n29 (wordOf (restN F 1)))).c none 0) = U at *
  go_wp2_with (refine wpList_load_blk rfl 41 (.tmp 7) rfl Bm rfl ((hereG (n29 (wordOf (restN F 1)))).c none 0) _ HM Tryz.underlying41 rfl (by kernel_rfl) ?_)
  refine (c13v (hereG (n29 (wordOf (restN F 1)))) key none 0 _ hle HLK hk).mono ?_
  rintro e U1 ⟨⟨str, rfl, hT⟩, hbU⟩
  have HM1 := BlkAt.below HM hbU hMU
  have HR1 := BlkAt.below HR hbU hRU
  have HO1 := OpnAt.below HO hbU hRU
  have hB1 : Below w.heap.size w U1 := hBU.trans (hbU.mono hBU.size)
  have HLK1 := lks_below HLK hbU
  clear HM HR HO HLK hBU hbU
  by_cases he : str.data.toList = s.data.toList
  · have HN : Hid (RMS s.data.toList key (hereG (n29 (wordOf (restN F 1)))) true) := rms_yes HX.out hT HSL.out he
    have e2 : str.toList = s.toList := by rw [ByteArray.toList_eq, ByteArray.toList_eq]; exact he
    have e1 : (str.toList == s.toList) = true := by simpa using e2
    clear hT HX he
    go_wp2_with (first | refine wpList_load_blk rfl 41 (.tmp 7) rfl Bm rfl ((hereG (n29 (wordOf (restN F 1)))).c none 0) _ HM1 Tryz.underlying41 rfl (by kernel_rfl) ?_ | refine wpList_store_blk rfl 41 (.tmp 4) (.tmp 151) rfl w.heap.size 0 rfl ((hereG (n29 (wordOf (restN F 1)))).c none 0) rfl (blk_some HR1 _ rfl) HO1 (G16.c_one _ _ _) (by kernel_rfl) rfl ?_)
    exact fin17 (hereG (n29 (wordOf (restN F 1)))) none 0 true HN.out (fun h => by cases h) hle (lks_filo _ HLK1 hAne) rfl rfl rfl HR1 hB1
  · have HN : Hid (RMS s.data.toList key g16z false) := rms_no HX.out hT he
    have e2 : ¬ str.toList = s.toList := by rw [ByteArray.toList_eq, ByteArray.toList_eq]; exact he
    have e1 : (str.toList == s.toList) = false := by simpa using e2
    clear hT HX he
    go_wp2_with (refine wpList_store_blk rfl 41 (.tmp 4) (.tmp 150) rfl w.heap.size 0 rfl zG rfl (blk_some HR1 zG rfl) HO1 (by simp [zG, Value.oneCell']) (by kernel_rfl) rfl ?_)
    exact fin17_no HN.out rfl rfl rfl HR1 hB1
end Go.Proofs.YtdcgjdgpiogdaaaGreatDoor
