import Derived.Test.YtpjpckmfehfniaaGreatDoorZC41
import Derived.Test.YtpjpckmfehfniaaGreatDoorH2
namespace Go.Proofs.YtpjpckmfehfniaaGreatDoor
open Go.RowKit
def ShAt (u : World) (B : Nat) (x : M.W19) (b n : Nat) (v : Value) : Prop := M.BlkAt u B [.int .i64 x.no, .bool x.up, .bool x.has, .int .i64 x.of.kd, .int .i64 x.of.to, .int .i64 x.of.fr, .int .i64 x.of.ep, .int .i64 x.of.ed, .string x.of.km.nm, .string x.of.km.tl, .string x.of.km.ar, .slice (some ⟨b, 0, none⟩) x.of.ls.length n, .int .i64 x.of.ct, .bool x.of.tn.over, .int .i64 x.of.tn.cd, .string x.of.tn.tx, .bool x.of.tn.has, .string x.of.tn.nm, .int .i64 x.of.tn.st, .int .i64 0, .int .i64 0, .int .i64 0, .int .i64 0, .int .i64 0, .string ⟨#[]⟩, .string ⟨#[]⟩, .string ⟨#[]⟩, .slice none 0 0, .int .i64 0, .bool false, .int .i64 0, .string ⟨#[]⟩, .bool false, .string ⟨#[]⟩, .int .i64 0, v]
def Sh0At (u : World) (B : Nat) (x : M.W19) (v : Value) : Prop := M.BlkAt u B [.int .i64 x.no, .bool x.up, .bool false, .int .i64 0, .int .i64 0, .int .i64 0, .int .i64 0, .int .i64 0, .string ⟨#[]⟩, .string ⟨#[]⟩, .string ⟨#[]⟩, .slice none 0 0, .int .i64 0, .bool false, .int .i64 0, .string ⟨#[]⟩, .bool false, .string ⟨#[]⟩, .int .i64 0, .int .i64 0, .int .i64 0, .int .i64 0, .int .i64 0, .int .i64 0, .string ⟨#[]⟩, .string ⟨#[]⟩, .string ⟨#[]⟩, .slice none 0 0, .int .i64 0, .bool false, .int .i64 0, .string ⟨#[]⟩, .bool false, .string ⟨#[]⟩, .int .i64 0, v]
def Out1 (u : World) (B : Nat) (x : M.W19) (v : Value) : Prop := u.ownsRow (B + 1) 48 16 v 1 [.int .i64 3, .int .i64 0, .int .i64 x.no, .int .i64 0, .int .i64 0, .string ⟨#[]⟩, .string ⟨#[]⟩, .string ⟨#[]⟩, .slice none 0 0, .int .i64 0, .bool false, .int .i64 0, .string ⟨#[]⟩, .bool false, .string ⟨#[]⟩, .int .i64 0]
def Out2 (u : World) (B : Nat) (x : M.W19) (t : TN) (v : Value) : Prop := u.ownsRow (B + 1) 48 16 v 2 ([.int .i64 3, .int .i64 0, .int .i64 x.no, .int .i64 0, .int .i64 0, .string ⟨#[]⟩, .string ⟨#[]⟩, .string ⟨#[]⟩, .slice none 0 0, .int .i64 0, .bool false, .int .i64 0, .string ⟨#[]⟩, .bool false, .string ⟨#[]⟩, .int .i64 0] ++ [.int .i64 2, .int .i64 0, .int .i64 x.no, .int .i64 x.of.ep, .int .i64 x.of.ed, .string x.of.km.nm, .string ⟨#[]⟩, .string ⟨#[]⟩, .slice none 0 0, .int .i64 x.of.ls.length, .bool t.over, .int .i64 t.code, .string t.text, .bool t.has, .string t.name, .int .i64 t.steps])
def FinS (u : World) (B : Nat) (x : M.W19) (t : TN) (b n : Nat) : Prop := (x.up = false ∧ ShAt u B x b n (.slice none 0 0)) ∨ (x.up = true ∧ x.has = false ∧ ∃ v, ShAt u B x b n v ∧ Out1 u B x v) ∨ (x.up = true ∧ x.has = true ∧ ∃ v, Sh0At u B x v ∧ Out2 u B x t v)
theorem lks_base {B b : Nat} {w w' : World} {ls : List M.L4} (h : M.LksAt w (some ⟨b, 0, none⟩) ls) (hb : Below B w w') (hB : ls = [] ∨ b < B) : M.LksAt w' (some ⟨b, 0, none⟩) ls := by
 rcases hB with hB | hB
 · exact .inl hB
 rcases h with h | ⟨g, off, h1, h2, h3⟩
 · exact .inl h
 · injection h1 with h1
   injection h1 with h1 _ _
   subst h1
   refine .inr ⟨b, off, by simp_all, Nat.lt_of_lt_of_le h2 hb.size, fun i hi => ?_⟩
   obtain ⟨x0, x1, x2, x3⟩ := h3 i hi
   exact ⟨(hb.cell (p := ⟨b, off + i * 4, none⟩) hB).trans x0, (hb.cell (p := ⟨b, off + i * 4 + 1, none⟩) hB).trans x1, (hb.cell (p := ⟨b, off + i * 4 + 2, none⟩) hB).trans x2, (hb.cell (p := ⟨b, off + i * 4 + 3, none⟩) hB).trans x3⟩
set_option maxHeartbeats 8000000 in
set_option maxRecDepth 100000 in
theorem c47t (x : M.W19) (t : TN) (B b n : Nat) (w : World) (Z : ShAt w B x b n (.slice none 0 0)) (f : M.OpnAt w B) (hB : B < w.heap.size) (hb : x.of.ls = [] ∨ b < B) (hB2 : 2 ≤ B) (hm : x.of.km.le 1048576) (hl : x.of.ls.length ≤ 1048576) (hs : ∀ i, (x.of.ls.getD i M.l4z).le 1048576) (hat : M.LksAt w (some ⟨b, 0, none⟩) x.of.ls) (hsh : ShapesAt w) (hmx : MaxAt w) (ht : goT x.of.km x.of.ls = t) :
 Calls Tryz.prog 47 #[.pointer (some ⟨B, 0, none⟩), .func (.func 48) #[.pointer (some ⟨B, 0, none⟩)] #[]] w fun e w' => e = .returned (.tuple #[]) ∧ FinS w' B x t b n ∧ M.OpnAt w' B ∧ Below B w w' := by
 have HZ : Hid (ShAt w B x b n (.slice none 0 0)) := Z
 have HF : Hid (M.OpnAt w B) := f
 have HA : Hid (M.LksAt w (some ⟨b, 0, none⟩) x.of.ls) := hat
 have HSH : Hid (ShapesAt w) := hsh
 have HMX : Hid (MaxAt w) := hmx
 have HM : Hid (x.of.km.le 1048576) := hm
 have HS : Hid (∀ i, (x.of.ls.getD i M.l4z).le 1048576) := hs
 have HT : Hid (goT x.of.km x.of.ls = t) := ht
 have n48 : ∀ u, (binOp .neq 138 (.func (.func 48) #[.pointer (some ⟨B, 0, none⟩)] #[]) .nilFunc).run Tryz.prog u = .ok (.bool true) u := fun u => by kernel_rfl
 have n95 : ∀ u, (binOp .neq 138 (.func (.func 95) #[.pointer (some ⟨B, 0, none⟩)] #[]) .nilFunc).run Tryz.prog u = .ok (.bool true) u := fun u => by kernel_rfl
 have n124 : ∀ u, (binOp .neq 138 (.func (.func 124) #[.pointer (some ⟨B, 0, none⟩)] #[]) .nilFunc).run Tryz.prog u = .ok (.bool true) u := fun u => by kernel_rfl
 have n139 : ∀ u, (binOp .neq 138 (.func (.func 139) #[.pointer (some ⟨B, 0, none⟩)] #[]) .nilFunc).run Tryz.prog u = .ok (.bool true) u := fun u => by kernel_rfl
 have n0 : ∀ u, (binOp .neq 138 .nilFunc .nilFunc).run Tryz.prog u = .ok (.bool false) u := fun u => by kernel_rfl
 clear Z f hat hsh hmx hm hs ht
 go_enter Tryz.func47, Tryz.ntmps47
 go_wp2_with fail
 go_loopw [4] (fun v wr => (v = .func (.func 48) #[.pointer (some ⟨B, 0, none⟩)] #[] ∧ Hid (Below w.heap.size w wr)) ∨ (v = .func (.func 95) #[.pointer (some ⟨B, 0, none⟩)] #[] ∧ Hid (x.up = true) ∧ Hid (Below w.heap.size w wr)) ∨ (v = .func (.func 124) #[.pointer (some ⟨B, 0, none⟩)] #[] ∧ Hid (x.up = true ∧ x.has = true) ∧ Hid (∃ v1, ShAt wr B x b n v1 ∧ Out1 wr B x v1) ∧ Hid (M.OpnAt wr B) ∧ Hid (Below B w wr) ∧ B < wr.heap.size) ∨ (v = .func (.func 139) #[.pointer (some ⟨B, 0, none⟩)] #[] ∧ Hid (x.up = true ∧ x.has = true) ∧ Hid (∃ v2, ShAt wr B x b n v2 ∧ Out2 wr B x t v2) ∧ Hid (M.OpnAt wr B) ∧ Hid (Below B w wr) ∧ B < wr.heap.size) ∨ (v = .nilFunc ∧ Hid (FinS wr B x t b n) ∧ Hid (M.OpnAt wr B) ∧ Hid (Below B w wr))) (fun v _ => match v with | .func (.func 48) _ _ => 4 | .func (.func 95) _ _ => 3 | .func (.func 124) _ _ => 2 | .func (.func 139) _ _ => 1 | _ => 0)
 case atStart => exact .inl ⟨rfl, Below.refl _ _⟩
 case round =>
  rcases hrel with ⟨rfl, hb1⟩ | ⟨rfl, hu, hb1⟩ | ⟨rfl, huh, hv, ho, hb1, hz⟩ | ⟨rfl, huh, hv, ho, hb1, hz⟩ | ⟨rfl, hf, ho, hb1⟩
  · go_wp2_with fail
    refine (c48 x B b n _ wr (HZ.out.below hb1.out hB)).mono ?_
    rintro e w1 ⟨rfl, hb2⟩
    have HB2 : Hid (Below w.heap.size w w1) := hb1.out.trans (hb2.mono hb1.out.size)
    clear hb2
    have hcase : x.up = true ∨ x.up = false := by cases x.up <;> simp
    rcases hcase with hh | hh
    · have HH : Hid (x.up = true) := hh
      have e : nxt x.up 95 B = .func (.func 95) #[.pointer (some ⟨B, 0, none⟩)] #[] := by rw [hh]; rfl
      rw [e]
      clear hh e
      go_wp2
      go_roundw
      case rel => exact .inr (.inl ⟨rfl, HH, HB2⟩)
      case measure => simp
    · have HH : Hid (x.up = false) := hh
      have e : nxt x.up 95 B = .nilFunc := by rw [hh]; rfl
      rw [e]
      clear hh e
      have HFS : Hid (FinS w1 B x t b n) := .inl ⟨HH.out, M.BlkAt.below HZ.out HB2.out hB⟩
      have HO : Hid (M.OpnAt w1 B) := HF.out.below HB2.out hB
      have HB3 : Hid (Below B w w1) := HB2.out.mono (by omega)
      go_wp2
      go_roundw
      case rel => exact .inr (.inr (.inr (.inr ⟨rfl, HFS, HO, HB3⟩)))
      case measure => simp
  · go_wp2_with fail
    refine (c95 x B b n wr (HZ.out.below hb1.out hB) (HF.out.below hb1.out hB) (Nat.lt_of_lt_of_le hB hb1.out.size)).mono ?_
    rintro e w1 ⟨rfl, hv, hf, hb2⟩
    have HV : Hid (∃ v1, ShAt w1 B x b n v1 ∧ Out1 w1 B x v1) := hv
    have HO : Hid (M.OpnAt w1 B) := hf
    have HB3 : Hid (Below B w w1) := (hb1.out.mono (by omega)).trans hb2
    have hz1 : B < w1.heap.size := Nat.lt_of_lt_of_le (Nat.lt_of_lt_of_le hB hb1.out.size) hb2.size
    clear hv hf hb2
    have hcase : x.has = true ∨ x.has = false := by cases x.has <;> simp
    rcases hcase with hh | hh
    · have HH : Hid (x.up = true ∧ x.has = true) := ⟨hu.out, hh⟩
      have e : nxt x.has 124 B = .func (.func 124) #[.pointer (some ⟨B, 0, none⟩)] #[] := by rw [hh]; rfl
      rw [e]
      clear hh e
      go_wp2
      go_roundw
      case rel => exact .inr (.inr (.inl ⟨rfl, HH, HV, HO, HB3, hz1⟩))
      case measure => simp
    · have HFS : Hid (FinS w1 B x t b n) := .inr (.inl ⟨hu.out, hh, HV.out⟩)
      have e : nxt x.has 124 B = .nilFunc := by rw [hh]; rfl
      rw [e]
      clear hh e
      go_wp2
      go_roundw
      case rel => exact .inr (.inr (.inr (.inr ⟨rfl, HFS, HO, HB3⟩)))
      case measure => simp
  · obtain ⟨v1, hz1, ho1⟩ := hv.out
    obtain ⟨a1, c1, rfl⟩ := row_formN ho1
    have HZ1 : Hid (ShAt wr B x b n (.slice a1 1 c1)) := hz1
    have HO1 : Hid (Out1 wr B x (.slice a1 1 c1)) := ho1
    clear hz1 ho1
    go_wp2_with fail
    refine (c124 x t B b n a1 c1 wr HZ1.out ho.out hz HO1.out HM.out hl HS.out (lks_base HA.out hb1.out hb) (shapes_base HSH.out hb1.out hB2) (max_base HMX.out hb1.out hB2) HT.out).mono ?_
    rintro e w1 ⟨rfl, hv2, hf, hb2⟩
    have HV : Hid (∃ v2, ShAt w1 B x b n v2 ∧ Out2 w1 B x t v2) := hv2
    have HO : Hid (M.OpnAt w1 B) := hf
    have HB3 : Hid (Below B w w1) := hb1.out.trans hb2
    have hz1 : B < w1.heap.size := Nat.lt_of_lt_of_le hz hb2.size
    clear hv2 hf hb2
    go_wp2
    go_roundw
    case rel => exact .inr (.inr (.inr (.inl ⟨rfl, huh, HV, HO, HB3, hz1⟩)))
    case measure => simp
  · obtain ⟨v2, hz2, ho2⟩ := hv.out
    have HZ2 : Hid (ShAt wr B x b n v2) := hz2
    have HO2 : Hid (Out2 wr B x t v2) := ho2
    clear hz2 ho2
    go_wp2_with fail
    refine (c139 x B b n v2 wr HZ2.out ho.out).mono ?_
    rintro e w1 ⟨rfl, hz3, hf, hbu⟩
    have HFS : Hid (FinS w1 B x t b n) := .inr (.inr ⟨huh.out.1, huh.out.2, v2, hz3, ownsRow_keep HO2.out fun k hk => by
     obtain ⟨hk1, cur, hc⟩ := own_block HO2.out hk
     exact hbu.block k (blk_lt hc) (by omega)⟩)
    have HO : Hid (M.OpnAt w1 B) := hf
    have HB3 : Hid (Below B w w1) := hb1.out.trans (hbu.below (Nat.le_refl _) (by omega))
    clear hz3 hf hbu
    go_wp2
    go_roundw
    case rel => exact .inr (.inr (.inr (.inr ⟨rfl, HFS, HO, HB3⟩)))
    case measure => simp
  · go_wp2
    refine bodyPost_end (v := .tuple #[]) (by simp [results, Tryz.results47, go_sem]) rfl ⟨rfl, hf.out, ho.out, hb1.out⟩
end Go.Proofs.YtpjpckmfehfniaaGreatDoor
