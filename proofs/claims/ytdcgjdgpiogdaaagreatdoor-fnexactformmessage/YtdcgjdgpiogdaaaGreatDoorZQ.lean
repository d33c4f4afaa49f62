import Derived.Test.YtdcgjdgpiogdaaaGreatDoorYP
import Derived.Test.YtdcgjdgpiogdaaaGreatDoorYF
import Derived.Test.YtdcgjdgpiogdaaaGreatDoorZR
import Derived.Test.YtdcgjdgpiogdaaaGreatDoorX5
import Derived.Test.YtdcgjdgpiogdaaaGreatDoorX4
import Derived.Lib.LaidTab
import Derived.Test.YtdcgjdgpiogdaaaGreatDoorCards
import Derived.Test.YtdcgjdgpiogdaaaGreatDoorTie
import Derived.WalkKit
import Derived.Deep.Slices
import Derived.Deep.Strs
import Derived.ChangeArms
import Derived.OpenVars
import Derived.ProofKit
import Derived.OpenShut
import Derived.ChangeOld
import Derived.LaidMore
import Derived.LaidOnce
import Derived.LaidHandle
import Derived.Deep.DeepHandedRow
import Derived.Deep.DeepWitnessRowRef
import Derived.SevenTiedAt
import Derived.Shelf.Vars
namespace Go.Proofs.YtdcgjdgpiogdaaaGreatDoor
open Go.RowKit
set_option maxHeartbeats 8000000 in
set_option maxRecDepth 100000 in
theorem c15_no (x : G16) (key : ByteArray) (ai : Option Addr) (ci : Nat) (w : World) (hs : x.le 1048576) (hat : LksAt w ai x.ls) (hk : key.size ≤ 1048576) (hno : ¬ (MsgOk x ∧ key.size ≤ 30)) :
    Calls Tryz.prog 15 #[.agg #[.int .i64 x.kd, .int .i64 x.to, .int .i64 x.fr, .int .i64 x.ep, .int .i64 x.ed, .string x.km.nm, .string x.km.tl, .string x.km.ar, .slice ai x.ls.length ci, .int .i64 x.ct, .bool x.tn.over, .int .i64 x.tn.cd, .string x.tn.tx, .bool x.tn.has, .string x.tn.nm, .int .i64 x.tn.st], .string key] w fun e w' => e = .returned (.string ⟨#[]⟩) ∧ Below w.heap.size w w' := by
  have hB0 : ∀ o, Below w.heap.size w (w.alloc o) := fun o => (Below.refl _ _).alloc (Nat.le_refl _) _
  have HAT : Hid (LksAt w ai x.ls) := hat
  have HS : Hid (x.le 1048576) := hs
  have HNO : Hid (¬ (MsgOk x ∧ key.size ≤ 30)) := hno
  clear hat hs hno
  go_enter Tryz.func15, Tryz.ntmps15
  go_wp2_with fail
  refine (c38m x ai ci _ HS.out (lks_below HAT.out (hB0 _))).mono ?_
  rintro e w1 ⟨⟨r, rfl, hr⟩, hb1⟩
  have HR : Hid (r = true ↔ MsgOk x) := hr
  have HB1 : Hid (Below w.heap.size w w1) := (hB0 _).trans (hb1.mono (by simp))
  clear hr hb1
  cases r
  · go_wp2
    go_ret
    exact ⟨rfl, HB1.out⟩
  · have hd : decide (key.size ≤ 30) = false := by
      simp only [decide_eq_false_iff_not]
      exact fun h => HNO.out ⟨HR.out.1 rfl, h⟩
    go_wp2_with fail
    refine (c39 key _ hk).mono ?_
    rintro e w2 ⟨rfl, hw2⟩
    obtain rfl := hw2.symm
    rw [hd]
    go_wp2
    go_ret
    exact ⟨rfl, HB1.out⟩
end Go.Proofs.YtdcgjdgpiogdaaaGreatDoor
namespace Go.Proofs.YtdcgjdgpiogdaaaGreatDoor
open Go.RowKit
theorem c15 (x : G16) (key : ByteArray) (ai : Option Addr) (ci : Nat) (w : World) (hp : Pow w) (hs : x.le 1048576) (hat : LksAt w ai x.ls) (hk : key.size ≤ 1048576) :
    Calls Tryz.prog 15 #[.agg #[.int .i64 x.kd, .int .i64 x.to, .int .i64 x.fr, .int .i64 x.ep, .int .i64 x.ed, .string x.km.nm, .string x.km.tl, .string x.km.ar, .slice ai x.ls.length ci, .int .i64 x.ct, .bool x.tn.over, .int .i64 x.tn.cd, .string x.tn.tx, .bool x.tn.has, .string x.tn.nm, .int .i64 x.tn.st], .string key] w fun e w' => IsT (Fm x key) (fmL x key) e ∧ Below w.heap.size w w' := by
  by_cases hf : MsgOk x ∧ key.size ≤ 30
  · have hE : tagS (ofL (msgL x)) key ++ ofL (msgL x) = ofL (fmL x key) := by
      show ofL (tagS (ofL (msgL x)) key).data.toList ++ ofL (msgL x) = _
      rw [cat_ofL]; rfl
    obtain ⟨kd, to, fr, ep, ed, km, ls, ct, tn⟩ := x
    obtain ⟨⟨rfl, h⟩ | ⟨rfl, h⟩ | ⟨rfl, h⟩, h30⟩ := id hf
    · exact (c15_1 ⟨1, to, fr, ep, ed, km, ls, ct, tn⟩ key ai ci w hp hs h30 h hat).mono fun e w' ⟨he, hb⟩ => ⟨⟨_, he, .inl ⟨hf, hE⟩⟩, hb⟩
    · exact (c15_2 ⟨2, to, fr, ep, ed, km, ls, ct, tn⟩ key ai ci w hp hs h30 h).mono fun e w' ⟨he, hb⟩ => ⟨⟨_, he, .inl ⟨hf, hE⟩⟩, hb⟩
    · exact (c15_3 ⟨3, to, fr, ep, ed, km, ls, ct, tn⟩ key ai ci w hp hs h30 h).mono fun e w' ⟨he, hb⟩ => ⟨⟨_, he, .inl ⟨hf, hE⟩⟩, hb⟩
  · exact (c15_no x key ai ci w hs hat hk hf).mono fun e w' ⟨he, hb⟩ => ⟨he ▸ isT_no hf, hb⟩
theorem isT_eq {P : Prop} {l : List UInt8} {e f : Ending} (h : IsT P l e) (k : IsT P l f) : e = f := by
  obtain ⟨s, rfl, ⟨h, rfl⟩ | ⟨h, rfl⟩⟩ := h <;> obtain ⟨t, rfl, ⟨k, rfl⟩ | ⟨k, rfl⟩⟩ := k
  · rfl
  · exact absurd h k
  · exact absurd k h
  · rfl
theorem BlkAt.drew {u : World} {B : Nat} {vs : List Value} (h : BlkAt u B vs) : BlkAt u.drew B vs := fun j v e => by simpa using h j v e
theorem load_exec {P : Program} {w : World} {ty : TypeId} {ad : Addr} {v : Value} (h : (loadVar ty ad).run P w = .ok v w) : ((Sem.run P (Instr.loadAt ty (.pointer (some ad))) w).andThen fun a w' => Result.ok (Next.value a) w') = .ok (.value v) w := by
  simp only [Instr.loadAt, Instr.sureAddr, Sem.run_bind, Sem.run_pure, Result.andThen_ok, h]
set_option maxHeartbeats 16000000 in
set_option maxRecDepth 100000 in
theorem c4 (x : G16) (key : ByteArray) (ai : Option Addr) (ci : Nat) (w : World) (hp : Pow w) (hs : x.le 9223372036854775807) (hat : LksAt w ai x.ls) (hky : key.size ≤ 9223372036854775807) :
    Calls Tryz.prog 4 #[.agg #[.int .i64 x.kd, .int .i64 x.to, .int .i64 x.fr, .int .i64 x.ep, .int .i64 x.ed, .string x.km.nm, .string x.km.tl, .string x.km.ar, .slice ai x.ls.length ci, .int .i64 x.ct, .bool x.tn.over, .int .i64 x.tn.cd, .string x.tn.tx, .bool x.tn.has, .string x.tn.nm, .int .i64 x.tn.st], .string key] w fun e w' => e = .returned (.bool true) ∧ Below w.heap.size w w' := by
  have HA : Hid (LksAt w ai x.ls) := hat
  have HSS : Hid (x.le 9223372036854775807) := hs
  have HP : Hid (Pow w) := hp
  have hB0 : Below w.heap.size w (w.alloc (.cells #[.int .i64 x.kd, .int .i64 x.to, .int .i64 x.fr, .int .i64 x.ep, .int .i64 x.ed, .string x.km.nm, .string x.km.tl, .string x.km.ar, .slice ai x.ls.length ci, .int .i64 x.ct, .bool x.tn.over, .int .i64 x.tn.cd, .string x.tn.tx, .bool x.tn.has, .string x.tn.nm, .int .i64 x.tn.st] 30)) := (Below.refl _ _).alloc (Nat.le_refl _) _
  have Z0 : BlkAt (w.alloc (.cells #[.int .i64 x.kd, .int .i64 x.to, .int .i64 x.fr, .int .i64 x.ep, .int .i64 x.ed, .string x.km.nm, .string x.km.tl, .string x.km.ar, .slice ai x.ls.length ci, .int .i64 x.ct, .bool x.tn.over, .int .i64 x.tn.cd, .string x.tn.tx, .bool x.tn.has, .string x.tn.nm, .int .i64 x.tn.st] 30)) w.heap.size [.int .i64 x.kd, .int .i64 x.to, .int .i64 x.fr, .int .i64 x.ep, .int .i64 x.ed, .string x.km.nm, .string x.km.tl, .string x.km.ar, .slice ai x.ls.length ci, .int .i64 x.ct, .bool x.tn.over, .int .i64 x.tn.cd, .string x.tn.tx, .bool x.tn.has, .string x.tn.nm, .int .i64 x.tn.st] := blk_new w [.int .i64 x.kd, .int .i64 x.to, .int .i64 x.fr, .int .i64 x.ep, .int .i64 x.ed, .string x.km.nm, .string x.km.tl, .string x.km.ar, .slice ai x.ls.length ci, .int .i64 x.ct, .bool x.tn.over, .int .i64 x.tn.cd, .string x.tn.tx, .bool x.tn.has, .string x.tn.nm, .int .i64 x.tn.st] 30
  have hz0 : w.heap.size < (w.alloc (.cells #[.int .i64 x.kd, .int .i64 x.to, .int .i64 x.fr, .int .i64 x.ep, .int .i64 x.ed, .string x.km.nm, .string x.km.tl, .string x.km.ar, .slice ai x.ls.length ci, .int .i64 x.ct, .bool x.tn.over, .int .i64 x.tn.cd, .string x.tn.tx, .bool x.tn.has, .string x.tn.nm, .int .i64 x.tn.st] 30)).heap.size := by simp
  clear hat hs hp
  by_cases hk : key.size ≤ 1048576
  · have hkd : decide ((1048576 : Int) < (key.size : Int)) = false := by simp; omega
    go_enter Tryz.func4, Tryz.ntmps4
    go_wp2_with (refine wpList_load_blk rfl 30 (.tmp 2) rfl w.heap.size rfl [.int .i64 x.kd, .int .i64 x.to, .int .i64 x.fr, .int .i64 x.ep, .int .i64 x.ed, .string x.km.nm, .string x.km.tl, .string x.km.ar, .slice ai x.ls.length ci, .int .i64 x.ct, .bool x.tn.over, .int .i64 x.tn.cd, .string x.tn.tx, .bool x.tn.has, .string x.tn.nm, .int .i64 x.tn.st] _ Z0 Tryz.underlying30 rfl (by kernel_rfl) ?_)
    generalize (w.alloc (.cells #[.int .i64 x.kd, .int .i64 x.to, .int .i64 x.fr, .int .i64 x.ep, .int .i64 x.ed, .string x.km.nm, .string x.km.tl, .string x.km.ar, .slice ai x.ls.length ci, .int .i64 x.ct, .bool x.tn.over, .int .i64 x.tn.cd, .string x.tn.tx, .bool x.tn.has, .string x.tn.nm, .int .i64 x.tn.st] 30)) = V at *
    refine (c12 x ai ci 1048576 V HSS.out (by omega) (by omega) (lks_below HA.out hB0)).mono ?_
    rintro e w1 ⟨⟨r, rfl, hr⟩, hb1⟩
    have hB1 : Below w.heap.size w w1 := hB0.trans (hb1.mono hB0.size)
    have hz1 : w.heap.size < w1.heap.size := Nat.lt_of_lt_of_le hz0 hb1.size
    have Z1 := Z0.below hb1 hz0
    clear hb1 Z0
    by_cases h0 : 0 ≤ r
    · obtain ⟨hs', hr'⟩ := hr h0
      have HS : Hid (x.le 1048576) := hs'
      have hl' : x.ls.length ≤ 1048576 := hs'.2.1.1
      clear hr hs'
      go_wp2_with (refine wpList_load_blk rfl 30 (.tmp 2) rfl w.heap.size rfl [.int .i64 x.kd, .int .i64 x.to, .int .i64 x.fr, .int .i64 x.ep, .int .i64 x.ed, .string x.km.nm, .string x.km.tl, .string x.km.ar, .slice ai x.ls.length ci, .int .i64 x.ct, .bool x.tn.over, .int .i64 x.tn.cd, .string x.tn.tx, .bool x.tn.has, .string x.tn.nm, .int .i64 x.tn.st] _ Z1 Tryz.underlying30 rfl (by kernel_rfl) ?_)
      refine (c14 x ai ci w1 hl' (lks_below HA.out hB1)).mono ?_
      rintro e wa ⟨⟨G1, hG1, rfl, hLG1⟩, hba⟩
      have hBa : Below w.heap.size w wa := hB1.trans (hba.mono hB1.size)
      have hza1 : w.heap.size < wa.heap.size := Nat.lt_of_lt_of_le hz1 hba.size
      have Za := Z1.below hba hz1
      clear hba Z1
      go_wp2_with fail
      refine (c13 x key (some ⟨G1, 0, none⟩) x.ls.length wa HS.out hLG1 hk).mono ?_
      rintro e wb ⟨hg, hbb⟩
      obtain ⟨s0, rfl, _⟩ := id hg
      have HG : Hid (IsT (Fm x key) (fmL x key) (.returned (.string s0))) := hg
      have hBb : Below w.heap.size w wb := hBa.trans (hbb.mono hBa.size)
      have hzb : w.heap.size < wb.heap.size := Nat.lt_of_lt_of_le hza1 hbb.size
      have Zb := Za.below hbb hza1
      clear hbb Za hg hLG1
      go_wp2_with (refine wpList_load_blk rfl 30 (.tmp 2) rfl w.heap.size rfl [.int .i64 x.kd, .int .i64 x.to, .int .i64 x.fr, .int .i64 x.ep, .int .i64 x.ed, .string x.km.nm, .string x.km.tl, .string x.km.ar, .slice ai x.ls.length ci, .int .i64 x.ct, .bool x.tn.over, .int .i64 x.tn.cd, .string x.tn.tx, .bool x.tn.has, .string x.tn.nm, .int .i64 x.tn.st] _ Zb Tryz.underlying30 rfl (by kernel_rfl) ?_)
      refine (c14 x ai ci wb hl' (lks_below HA.out hBb)).mono ?_
      rintro e wc ⟨⟨G2, hG2, rfl, hLG2⟩, hbc⟩
      have hBc : Below w.heap.size w wc := hBb.trans (hbc.mono hBb.size)
      have hzc : w.heap.size < wc.heap.size := Nat.lt_of_lt_of_le hzb hbc.size
      have Zc := Zb.below hbc hzb
      have HLC : Hid (LksAt wc (some ⟨G2, 0, none⟩) x.ls) := hLG2
      have hmark : True := trivial
      have ZN : BlkAt (wc.alloc (.cells #[.int .i64 0, .int .i64 0, .int .i64 0, .int .i64 0, .int .i64 0, .string ⟨#[]⟩, .string ⟨#[]⟩, .string ⟨#[]⟩, .slice none 0 0, .int .i64 0, .bool false, .int .i64 0, .string ⟨#[]⟩, .bool false, .string ⟨#[]⟩, .int .i64 0] 41)) wc.heap.size [.int .i64 0, .int .i64 0, .int .i64 0, .int .i64 0, .int .i64 0, .string ⟨#[]⟩, .string ⟨#[]⟩, .string ⟨#[]⟩, .slice none 0 0, .int .i64 0, .bool false, .int .i64 0, .string ⟨#[]⟩, .bool false, .string ⟨#[]⟩, .int .i64 0] := blk_new wc [.int .i64 0, .int .i64 0, .int .i64 0, .int .i64 0, .int .i64 0, .string ⟨#[]⟩, .string ⟨#[]⟩, .string ⟨#[]⟩, .slice none 0 0, .int .i64 0, .bool false, .int .i64 0, .string ⟨#[]⟩, .bool false, .string ⟨#[]⟩, .int .i64 0] 41
      have FN : OpnAt (wc.alloc (.cells #[.int .i64 0, .int .i64 0, .int .i64 0, .int .i64 0, .int .i64 0, .string ⟨#[]⟩, .string ⟨#[]⟩, .string ⟨#[]⟩, .slice none 0 0, .int .i64 0, .bool false, .int .i64 0, .string ⟨#[]⟩, .bool false, .string ⟨#[]⟩, .int .i64 0] 41)) wc.heap.size := opn_new wc _ 41
      clear hbc Zb hLG2
      have hSome : ∀ i, i < ([.int .i64 x.kd, .int .i64 x.to, .int .i64 x.fr, .int .i64 x.ep, .int .i64 x.ed, .string x.km.nm, .string x.km.tl, .string x.km.ar, .slice (some ⟨G2, 0, none⟩) x.ls.length x.ls.length, .int .i64 x.ct, .bool x.tn.over, .int .i64 x.tn.cd, .string x.tn.tx, .bool x.tn.has, .string x.tn.nm, .int .i64 x.tn.st] : List Value).length → ((wc.alloc (.cells #[.int .i64 0, .int .i64 0, .int .i64 0, .int .i64 0, .int .i64 0, .string ⟨#[]⟩, .string ⟨#[]⟩, .string ⟨#[]⟩, .slice none 0 0, .int .i64 0, .bool false, .int .i64 0, .string ⟨#[]⟩, .bool false, .string ⟨#[]⟩, .int .i64 0] 41)).cell? ⟨wc.heap.size, 0 + i, none⟩).isSome = true := fun i hi => by
        rw [Nat.zero_add]
        have hz : i < ([.int .i64 0, .int .i64 0, .int .i64 0, .int .i64 0, .int .i64 0, .string ⟨#[]⟩, .string ⟨#[]⟩, .string ⟨#[]⟩, .slice none 0 0, .int .i64 0, .bool false, .int .i64 0, .string ⟨#[]⟩, .bool false, .string ⟨#[]⟩, .int .i64 0] : List Value).length := hi
        rw [ZN i _ (List.getElem?_eq_getElem hz)]
        rfl
      go_wp2_with (refine wpList_store_blk rfl 41 (.tmp 7) (.tmp 22) rfl wc.heap.size 0 rfl [.int .i64 x.kd, .int .i64 x.to, .int .i64 x.fr, .int .i64 x.ep, .int .i64 x.ed, .string x.km.nm, .string x.km.tl, .string x.km.ar, .slice (some ⟨G2, 0, none⟩) x.ls.length x.ls.length, .int .i64 x.ct, .bool x.tn.over, .int .i64 x.tn.cd, .string x.tn.tx, .bool x.tn.has, .string x.tn.nm, .int .i64 x.tn.st] rfl hSome FN (by simp [Value.oneCell']) (by kernel_rfl) rfl ?_; revert hmark)
      clear hSome
      intro _
      have hXc : Below wc.heap.size wc (wc.alloc (.cells #[.int .i64 0, .int .i64 0, .int .i64 0, .int .i64 0, .int .i64 0, .string ⟨#[]⟩, .string ⟨#[]⟩, .string ⟨#[]⟩, .slice none 0 0, .int .i64 0, .bool false, .int .i64 0, .string ⟨#[]⟩, .bool false, .string ⟨#[]⟩, .int .i64 0] 41)) := (Below.refl _ _).alloc (Nat.le_refl _) _
      have hxF : BlkAt (fill (wc.alloc (.cells #[.int .i64 0, .int .i64 0, .int .i64 0, .int .i64 0, .int .i64 0, .string ⟨#[]⟩, .string ⟨#[]⟩, .string ⟨#[]⟩, .slice none 0 0, .int .i64 0, .bool false, .int .i64 0, .string ⟨#[]⟩, .bool false, .string ⟨#[]⟩, .int .i64 0] 41)) wc.heap.size 0 [.int .i64 x.kd, .int .i64 x.to, .int .i64 x.fr, .int .i64 x.ep, .int .i64 x.ed, .string x.km.nm, .string x.km.tl, .string x.km.ar, .slice (some ⟨G2, 0, none⟩) x.ls.length x.ls.length, .int .i64 x.ct, .bool x.tn.over, .int .i64 x.tn.cd, .string x.tn.tx, .bool x.tn.has, .string x.tn.nm, .int .i64 x.tn.st]) wc.heap.size [.int .i64 x.kd, .int .i64 x.to, .int .i64 x.fr, .int .i64 x.ep, .int .i64 x.ed, .string x.km.nm, .string x.km.tl, .string x.km.ar, .slice (some ⟨G2, 0, none⟩) x.ls.length x.ls.length, .int .i64 x.ct, .bool x.tn.over, .int .i64 x.tn.cd, .string x.tn.tx, .bool x.tn.has, .string x.tn.nm, .int .i64 x.tn.st] := BlkAt.fill [.int .i64 x.kd, .int .i64 x.to, .int .i64 x.fr, .int .i64 x.ep, .int .i64 x.ed, .string x.km.nm, .string x.km.tl, .string x.km.ar, .slice (some ⟨G2, 0, none⟩) x.ls.length x.ls.length, .int .i64 x.ct, .bool x.tn.over, .int .i64 x.tn.cd, .string x.tn.tx, .bool x.tn.has, .string x.tn.nm, .int .i64 x.tn.st] [] [.int .i64 0, .int .i64 0, .int .i64 0, .int .i64 0, .int .i64 0, .string ⟨#[]⟩, .string ⟨#[]⟩, .string ⟨#[]⟩, .slice none 0 0, .int .i64 0, .bool false, .int .i64 0, .string ⟨#[]⟩, .bool false, .string ⟨#[]⟩, .int .i64 0] [] 0 ZN rfl rfl
      have hbF : Below wc.heap.size wc (fill (wc.alloc (.cells #[.int .i64 0, .int .i64 0, .int .i64 0, .int .i64 0, .int .i64 0, .string ⟨#[]⟩, .string ⟨#[]⟩, .string ⟨#[]⟩, .slice none 0 0, .int .i64 0, .bool false, .int .i64 0, .string ⟨#[]⟩, .bool false, .string ⟨#[]⟩, .int .i64 0] 41)) wc.heap.size 0 [.int .i64 x.kd, .int .i64 x.to, .int .i64 x.fr, .int .i64 x.ep, .int .i64 x.ed, .string x.km.nm, .string x.km.tl, .string x.km.ar, .slice (some ⟨G2, 0, none⟩) x.ls.length x.ls.length, .int .i64 x.ct, .bool x.tn.over, .int .i64 x.tn.cd, .string x.tn.tx, .bool x.tn.has, .string x.tn.nm, .int .i64 x.tn.st]) := below_fill (Nat.le_refl _) _ _ hXc
      have hzF : wc.heap.size < (fill (wc.alloc (.cells #[.int .i64 0, .int .i64 0, .int .i64 0, .int .i64 0, .int .i64 0, .string ⟨#[]⟩, .string ⟨#[]⟩, .string ⟨#[]⟩, .slice none 0 0, .int .i64 0, .bool false, .int .i64 0, .string ⟨#[]⟩, .bool false, .string ⟨#[]⟩, .int .i64 0] 41)) wc.heap.size 0 [.int .i64 x.kd, .int .i64 x.to, .int .i64 x.fr, .int .i64 x.ep, .int .i64 x.ed, .string x.km.nm, .string x.km.tl, .string x.km.ar, .slice (some ⟨G2, 0, none⟩) x.ls.length x.ls.length, .int .i64 x.ct, .bool x.tn.over, .int .i64 x.tn.cd, .string x.tn.tx, .bool x.tn.has, .string x.tn.nm, .int .i64 x.tn.st]).heap.size := by rw [size_fill]; simp
      generalize (fill (wc.alloc (.cells #[.int .i64 0, .int .i64 0, .int .i64 0, .int .i64 0, .int .i64 0, .string ⟨#[]⟩, .string ⟨#[]⟩, .string ⟨#[]⟩, .slice none 0 0, .int .i64 0, .bool false, .int .i64 0, .string ⟨#[]⟩, .bool false, .string ⟨#[]⟩, .int .i64 0] 41)) wc.heap.size 0 [.int .i64 x.kd, .int .i64 x.to, .int .i64 x.fr, .int .i64 x.ep, .int .i64 x.ed, .string x.km.nm, .string x.km.tl, .string x.km.ar, .slice (some ⟨G2, 0, none⟩) x.ls.length x.ls.length, .int .i64 x.ct, .bool x.tn.over, .int .i64 x.tn.cd, .string x.tn.tx, .bool x.tn.has, .string x.tn.nm, .int .i64 x.tn.st]) = F at *
      generalize hXX : wc.heap.size = X at *
      have ZF := Zc.below hbF (by omega)
      have hBF : Below w.heap.size w F := hBc.trans (hbF.mono (by omega))
      have HLF : Hid (LksAt F (some ⟨G2, 0, none⟩) x.ls) := lks_below HLC.out (by rw [hXX]; exact hbF)
      have hzwF : w.heap.size < F.heap.size := by omega
      clear ZN FN hXc hbF HLC Zc hXX
      go_wp2_with (refine wpList_load_blk rfl 41 (.tmp 7) rfl X rfl [.int .i64 x.kd, .int .i64 x.to, .int .i64 x.fr, .int .i64 x.ep, .int .i64 x.ed, .string x.km.nm, .string x.km.tl, .string x.km.ar, .slice (some ⟨G2, 0, none⟩) x.ls.length x.ls.length, .int .i64 x.ct, .bool x.tn.over, .int .i64 x.tn.cd, .string x.tn.tx, .bool x.tn.has, .string x.tn.nm, .int .i64 x.tn.st] _ hxF Tryz.underlying41 rfl (by kernel_rfl) ?_)
      refine (c15 x key (some ⟨G2, 0, none⟩) x.ls.length F (pow_below HP.out hBF) HS.out HLF.out hk).mono ?_
      rintro e wd ⟨hg', hbd⟩
      obtain rfl := isT_eq hg' HG.out
      have hBd : Below w.heap.size w wd := hBF.trans (hbd.mono hBF.size)
      have hzw : w.heap.size < wd.heap.size := Nat.lt_of_lt_of_le hzwF hbd.size
      have hzX : X < wd.heap.size := Nat.lt_of_lt_of_le hzF hbd.size
      have hza := ZF.below hbd hzwF
      have hzx := hxF.below hbd hzF
      have HLD : Hid (LksAt wd (some ⟨G2, 0, none⟩) x.ls) := lks_below HLF.out hbd
      clear hbd hg' HG ZF hxF HLF
      go_wp2_with fail
      refine wp_region_held_drew (S := (fun u => BlkAt u w.heap.size [.int .i64 x.kd, .int .i64 x.to, .int .i64 x.fr, .int .i64 x.ep, .int .i64 x.ed, .string x.km.nm, .string x.km.tl, .string x.km.ar, .slice ai x.ls.length ci, .int .i64 x.ct, .bool x.tn.over, .int .i64 x.tn.cd, .string x.tn.tx, .bool x.tn.has, .string x.tn.nm, .int .i64 x.tn.st] ∧ BlkAt u X [.int .i64 x.kd, .int .i64 x.to, .int .i64 x.fr, .int .i64 x.ep, .int .i64 x.ed, .string x.km.nm, .string x.km.tl, .string x.km.ar, .slice (some ⟨G2, 0, none⟩) x.ls.length x.ls.length, .int .i64 x.ct, .bool x.tn.over, .int .i64 x.tn.cd, .string x.tn.tx, .bool x.tn.has, .string x.tn.nm, .int .i64 x.tn.st])) (by kernel_rfl) ?_ (fun hHeld => ?_)
      · ((try dsimp only); first | exact ⟨hza, hzx⟩ | exact ⟨hza.drew, hzx.drew⟩)
      refine wpAnyH_take (i := 0) (oi := { dst := some 29, op := Op.load 41 (Operand.tmp 7), type := 41, pos := "exact.go:3785", after := #[], guard := none }) (v := .agg #[.int .i64 x.kd, .int .i64 x.to, .int .i64 x.fr, .int .i64 x.ep, .int .i64 x.ed, .string x.km.nm, .string x.km.tl, .string x.km.ar, .slice (some ⟨G2, 0, none⟩) x.ls.length x.ls.length, .int .i64 x.ct, .bool x.tn.over, .int .i64 x.tn.cd, .string x.tn.tx, .bool x.tn.has, .string x.tn.nm, .int .i64 x.tn.st]) rfl (by kernel_rfl) (by kernel_rfl) (by kernel_rfl) (fun _ _ _ h => h) (Or.inl ⟨by rfl, ?_⟩) (by assumption) ?_
      · intro wq hSw
        have hq := run_loadVar_blk (P := Tryz.prog) wq X 41 [.int .i64 x.kd, .int .i64 x.to, .int .i64 x.fr, .int .i64 x.ep, .int .i64 x.ed, .string x.km.nm, .string x.km.tl, .string x.km.ar, .slice (some ⟨G2, 0, none⟩) x.ls.length x.ls.length, .int .i64 x.ct, .bool x.tn.over, .int .i64 x.tn.cd, .string x.tn.tx, .bool x.tn.has, .string x.tn.nm, .int .i64 x.tn.st] _ hSw.2 Tryz.underlying41 rfl (by kernel_rfl)
        have hg := load_exec hq
        first
          | exact hg
          | (simp only [execOp, Sem.run_bind, Sem.run_pure]; exact hg)
          | (unfold execOp; simp only [Sem.run_bind, Sem.run_pure]; exact hg)
      try simp only [Act.put, List.setIfInBounds_toArray, List.set_cons_zero, List.set_cons_succ]
      refine wpAnyH_take (i := 1) (oi := { dst := some 30, op := Op.load 30 (Operand.tmp 2), type := 30, pos := "exact.go:3785", after := #[], guard := none }) (v := .agg #[.int .i64 x.kd, .int .i64 x.to, .int .i64 x.fr, .int .i64 x.ep, .int .i64 x.ed, .string x.km.nm, .string x.km.tl, .string x.km.ar, .slice ai x.ls.length ci, .int .i64 x.ct, .bool x.tn.over, .int .i64 x.tn.cd, .string x.tn.tx, .bool x.tn.has, .string x.tn.nm, .int .i64 x.tn.st]) rfl (by kernel_rfl) (by kernel_rfl) (by kernel_rfl) (fun _ _ _ h => h) (Or.inl ⟨by rfl, ?_⟩) (by assumption) ?_
      · intro wq hSw
        have hq := run_loadVar_blk (P := Tryz.prog) wq w.heap.size 30 [.int .i64 x.kd, .int .i64 x.to, .int .i64 x.fr, .int .i64 x.ep, .int .i64 x.ed, .string x.km.nm, .string x.km.tl, .string x.km.ar, .slice ai x.ls.length ci, .int .i64 x.ct, .bool x.tn.over, .int .i64 x.tn.cd, .string x.tn.tx, .bool x.tn.has, .string x.tn.nm, .int .i64 x.tn.st] _ hSw.1 Tryz.underlying30 rfl (by kernel_rfl)
        have hg := load_exec hq
        first
          | exact hg
          | (simp only [execOp, Sem.run_bind, Sem.run_pure]; exact hg)
          | (unfold execOp; simp only [Sem.run_bind, Sem.run_pure]; exact hg)
      try simp only [Act.put, List.setIfInBounds_toArray, List.set_cons_zero, List.set_cons_succ]
      refine wpAnyH_ready (rs := [2]) (by kernel_rfl) (by simp) ?_
      refine AllReadyH.cons (o := { dst := some 31, op := Op.call { callee := Callee.value (Operand.func 14), args := #[Operand.tmp 30], argTypes := #[30] }, type := 41, pos := "exact.go:3785", after := #[{ on := 1, ground := Ground.data }], guard := none }) rfl (fun K hK => ?_) AllReadyH.nil
      go_simp
      refine (c14 x ai ci _ hl' (lks_below HA.out hBd.drew)).mono ?_
      rintro e we ⟨⟨G3, hG3, rfl, hLG3⟩, hbe⟩
      have HBE : Hid (Below wd.heap.size wd we) := ((Below.refl _ _).drew).trans hbe
      have hza := hza.below HBE.out hzw
      have hzx := hzx.below HBE.out hzX
      have HLE : Hid (LksAt we (some ⟨G3, 0, none⟩) x.ls) := hLG3
      have hBe : Below w.heap.size w we := hBd.trans (HBE.out.mono hBd.size)
      have hze : w.heap.size < we.heap.size := Nat.lt_of_lt_of_le hzw HBE.out.size
      have hzXe : X < we.heap.size := Nat.lt_of_lt_of_le hzX HBE.out.size
      clear hLG3 hbe
      go_wp2_with fail
      clear hHeld
      refine hK.out _ _ ?_ (fun hHeld => ?_)
      · ((try dsimp only); first | exact ⟨hza, hzx⟩ | exact ⟨hza.drew, hzx.drew⟩)
      clear hK K
      try simp only [Act.put, List.setIfInBounds_toArray, List.set_cons_zero, List.set_cons_succ]
      refine wpAnyH_ready (rs := [3]) (by kernel_rfl) (by simp) ?_
      refine AllReadyH.cons (o := { dst := some 32, op := Op.call { callee := Callee.value (Operand.func 16), args := #[Operand.tmp 29, Operand.tmp 31], argTypes := #[41, 41] }, type := 4, pos := "exact.go:3785", after := #[{ on := 0, ground := Ground.data }, { on := 2, ground := Ground.data }, { on := 2, ground := Ground.chain }], guard := none }) rfl (fun K hK => ?_) AllReadyH.nil
      go_simp
      refine (c16 x (some ⟨G2, 0, none⟩) (some ⟨G3, 0, none⟩) x.ls.length x.ls.length we hl' (lks_below HLD.out HBE.out) HLE.out).mono ?_
      rintro e wf ⟨rfl, hbf⟩
      have hBf : Below w.heap.size w wf := hBe.trans (hbf.mono hBe.size)
      have hza := hza.below hbf hze
      have hzx := hzx.below hbf hzXe
      go_wp2_with fail
      clear hHeld
      refine hK.out _ _ ?_ (fun hHeld => ?_)
      · ((try dsimp only); first | exact ⟨hza, hzx⟩ | exact ⟨hza.drew, hzx.drew⟩)
      clear hK K
      try simp only [Act.put, List.setIfInBounds_toArray, List.set_cons_zero, List.set_cons_succ]
      refine wpAnyH_take (i := 4) (oi := { dst := some 33, op := Op.unOp UnOp.not 4 (Operand.tmp 32), type := 4, pos := "exact.go:3785", after := #[{ on := 3, ground := Ground.data }], guard := none }) (v := ?_) rfl (by kernel_rfl) (by kernel_rfl) (by kernel_rfl) (fun _ _ _ h => h) (Or.inl ⟨by rfl, ?_⟩) (by assumption) ?_
      rotate_left
      · intro wq hSw
        (try dsimp only at hSw)
        go_simp
        try with_reducible rfl
      try simp only [Act.put, List.setIfInBounds_toArray, List.set_cons_zero, List.set_cons_succ]
      refine wpAnyH_done (by kernel_rfl) ?_ _
      clear hHeld
      go_wp2
      go_ret
      exact ⟨rfl, hBf⟩
    · clear hr
      go_wp2
      go_ret
      exact ⟨rfl, hB1⟩
  · have hkd : decide ((1048576 : Int) < (key.size : Int)) = true := by simp; omega
    go_enter Tryz.func4, Tryz.ntmps4
    go_wp2
    go_ret
    exact ⟨rfl, hB0⟩
end Go.Proofs.YtdcgjdgpiogdaaaGreatDoor
namespace Go.Proofs.YtdcgjdgpiogdaaaGreatDoor.fnExactFormMessage
open Go.ChangeShapes Go.WideShapes Go.ChangeAt Go.RowKit
set_option linter.unusedVariables false
theorem cells3 : Tryz.prog.cellsOf 3 = 1 := by kernel_rfl
theorem cells4 : Tryz.prog.cellsOf 4 = 1 := by kernel_rfl
theorem cells23 : Tryz.prog.cellsOf 23 = 3 := by kernel_rfl
theorem cells24 : Tryz.prog.cellsOf 24 = 1 := by kernel_rfl
theorem cells26 : Tryz.prog.cellsOf 26 = 2 := by kernel_rfl
theorem cells28 : Tryz.prog.cellsOf 28 = 6 := by kernel_rfl
theorem cells30 : Tryz.prog.cellsOf 30 = 16 := by kernel_rfl
theorem cells109 : Tryz.prog.cellsOf 109 = 4 := by kernel_rfl
theorem cells9' : Tryz.prog.cellsOf 9 = 1 := by kernel_rfl
theorem list2' {α : Type} {l : List α} (h : l.length = 2) : ∃ a0 a1, l = [a0, a1] := by
  match l, h with
  | [a0, a1], _ => exact ⟨a0, a1, rfl⟩
theorem list3' {α : Type} {l : List α} (h : l.length = 3) : ∃ a0 a1 a2, l = [a0, a1, a2] := by
  match l, h with
  | [a0, a1, a2], _ => exact ⟨a0, a1, a2, rfl⟩
theorem list4' {α : Type} {l : List α} (h : l.length = 4) : ∃ a0 a1 a2 a3, l = [a0, a1, a2, a3] := by
  match l, h with
  | [a0, a1, a2, a3], _ => exact ⟨a0, a1, a2, a3, rfl⟩
theorem list6' {α : Type} {l : List α} (h : l.length = 6) : ∃ a0 a1 a2 a3 a4 a5, l = [a0, a1, a2, a3, a4, a5] := by
  match l, h with
  | [a0, a1, a2, a3, a4, a5], _ => exact ⟨a0, a1, a2, a3, a4, a5, rfl⟩
theorem list16' {α : Type} {l : List α} (h : l.length = 16) : ∃ a0 a1 a2 a3 a4 a5 a6 a7 a8 a9 a10 a11 a12 a13 a14 a15, l = [a0, a1, a2, a3, a4, a5, a6, a7, a8, a9, a10, a11, a12, a13, a14, a15] := by
  match l, h with
  | [a0, a1, a2, a3, a4, a5, a6, a7, a8, a9, a10, a11, a12, a13, a14, a15], _ => exact ⟨a0, a1, a2, a3, a4, a5, a6, a7, a8, a9, a10, a11, a12, a13, a14, a15, rfl⟩
theorem struct4 {H : Type} {enc : TypeId × Value → H} {P : Program} {w : World} {base : Nat} {spare : Nat → Bool} {held : Bool} {t : TypeId} {f0 f1 f2 f3 : Field} {fuel : Nat} {cs : List Value} {x : DataW H × List MemPlace} (ht : P.underlying t = some (.struct #[f0, f1, f2, f3])) (h : DataW.trod enc P w base spare held fuel t cs = some x) :
    ∃ y0 y1 y2 y3 n, cs.length = P.cellsOf t ∧ DataW.trod enc P w base spare held n f0.type ((cs.drop f0.offset).take (P.cellsOf f0.type)) = some y0 ∧ DataW.trod enc P w base spare held n f1.type ((cs.drop f1.offset).take (P.cellsOf f1.type)) = some y1 ∧ DataW.trod enc P w base spare held n f2.type ((cs.drop f2.offset).take (P.cellsOf f2.type)) = some y2 ∧ DataW.trod enc P w base spare held n f3.type ((cs.drop f3.offset).take (P.cellsOf f3.type)) = some y3 := by
  obtain ⟨xs, n, _, rfl, hl, hlen, hf⟩ := DataW.trod_struct ht h
  match xs, hlen with
  | [y0, y1, y2, y3], _ => exact ⟨y0, y1, y2, y3, n, hl, by simpa using hf 0 f0 rfl, by simpa using hf 1 f1 rfl, by simpa using hf 2 f2 rfl, by simpa using hf 3 f3 rfl⟩
theorem struct5 {H : Type} {enc : TypeId × Value → H} {P : Program} {w : World} {base : Nat} {spare : Nat → Bool} {held : Bool} {t : TypeId} {f0 f1 f2 f3 f4 : Field} {fuel : Nat} {cs : List Value} {x : DataW H × List MemPlace} (ht : P.underlying t = some (.struct #[f0, f1, f2, f3, f4])) (h : DataW.trod enc P w base spare held fuel t cs = some x) :
    ∃ y0 y1 y2 y3 y4 n, cs.length = P.cellsOf t ∧ DataW.trod enc P w base spare held n f0.type ((cs.drop f0.offset).take (P.cellsOf f0.type)) = some y0 ∧ DataW.trod enc P w base spare held n f1.type ((cs.drop f1.offset).take (P.cellsOf f1.type)) = some y1 ∧ DataW.trod enc P w base spare held n f2.type ((cs.drop f2.offset).take (P.cellsOf f2.type)) = some y2 ∧ DataW.trod enc P w base spare held n f3.type ((cs.drop f3.offset).take (P.cellsOf f3.type)) = some y3 ∧ DataW.trod enc P w base spare held n f4.type ((cs.drop f4.offset).take (P.cellsOf f4.type)) = some y4 := by
  obtain ⟨xs, n, _, rfl, hl, hlen, hf⟩ := DataW.trod_struct ht h
  match xs, hlen with
  | [y0, y1, y2, y3, y4], _ => exact ⟨y0, y1, y2, y3, y4, n, hl, by simpa using hf 0 f0 rfl, by simpa using hf 1 f1 rfl, by simpa using hf 2 f2 rfl, by simpa using hf 3 f3 rfl, by simpa using hf 4 f4 rfl⟩
theorem struct9 {H : Type} {enc : TypeId × Value → H} {P : Program} {w : World} {base : Nat} {spare : Nat → Bool} {held : Bool} {t : TypeId} {f0 f1 f2 f3 f4 f5 f6 f7 f8 : Field} {fuel : Nat} {cs : List Value} {x : DataW H × List MemPlace} (ht : P.underlying t = some (.struct #[f0, f1, f2, f3, f4, f5, f6, f7, f8])) (h : DataW.trod enc P w base spare held fuel t cs = some x) :
    ∃ y0 y1 y2 y3 y4 y5 y6 y7 y8 n, cs.length = P.cellsOf t ∧ DataW.trod enc P w base spare held n f0.type ((cs.drop f0.offset).take (P.cellsOf f0.type)) = some y0 ∧ DataW.trod enc P w base spare held n f1.type ((cs.drop f1.offset).take (P.cellsOf f1.type)) = some y1 ∧ DataW.trod enc P w base spare held n f2.type ((cs.drop f2.offset).take (P.cellsOf f2.type)) = some y2 ∧ DataW.trod enc P w base spare held n f3.type ((cs.drop f3.offset).take (P.cellsOf f3.type)) = some y3 ∧ DataW.trod enc P w base spare held n f4.type ((cs.drop f4.offset).take (P.cellsOf f4.type)) = some y4 ∧ DataW.trod enc P w base spare held n f5.type ((cs.drop f5.offset).take (P.cellsOf f5.type)) = some y5 ∧ DataW.trod enc P w base spare held n f6.type ((cs.drop f6.offset).take (P.cellsOf f6.type)) = some y6 ∧ DataW.trod enc P w base spare held n f7.type ((cs.drop f7.offset).take (P.cellsOf f7.type)) = some y7 ∧ DataW.trod enc P w base spare held n f8.type ((cs.drop f8.offset).take (P.cellsOf f8.type)) = some y8 := by
  obtain ⟨xs, n, _, rfl, hl, hlen, hf⟩ := DataW.trod_struct ht h
  match xs, hlen with
  | [y0, y1, y2, y3, y4, y5, y6, y7, y8], _ => exact ⟨y0, y1, y2, y3, y4, y5, y6, y7, y8, n, hl, by simpa using hf 0 f0 rfl, by simpa using hf 1 f1 rfl, by simpa using hf 2 f2 rfl, by simpa using hf 3 f3 rfl, by simpa using hf 4 f4 rfl, by simpa using hf 5 f5 rfl, by simpa using hf 6 f6 rfl, by simpa using hf 7 f7 rfl, by simpa using hf 8 f8 rfl⟩
theorem res_cells {H : Type} {enc : TypeId × Value → H} {w : World} {base : Nat} {sp : Nat → Bool} {held : Bool} {fuel : Nat} {cs : List Value} {y : DataW H × List MemPlace}
    (h : DataW.trod enc Tryz.prog w base sp held fuel 26 cs = some y) : ∃ (c : Int) (t : ByteArray), cs = [.int .i64 c, .string t] ∧ t.size ≤ maxLen := by
  obtain ⟨y0, y1, n, hx, hlen, h0, h1⟩ := trod_struct2 Tryz.underlying26 h
  rw [cells26] at hlen
  obtain ⟨c0, c1, rfl⟩ := list2' hlen
  simp only [cells9', cells3] at h0 h1
  obtain ⟨n0, e0, _, _⟩ := DataW.trod_int Tryz.underlying3 h0
  obtain ⟨s, e1, _, hs⟩ := DataW.trod_string Tryz.underlying9 h1
  simp at e0 e1
  exact ⟨n0, s, by rw [e0, e1], hs⟩
theorem make_cells {H : Type} {enc : TypeId × Value → H} {w : World} {base : Nat} {sp : Nat → Bool} {held : Bool} {fuel : Nat} {cs : List Value} {y : DataW H × List MemPlace}
    (h : DataW.trod enc Tryz.prog w base sp held fuel 23 cs = some y) : ∃ x : M3, cs = [.string x.nm, .string x.tl, .string x.ar] ∧ x.le maxLen := by
  obtain ⟨y0, y1, y2, n, hx, hlen, h0, h1, h2⟩ := Go.Deep.trod_struct3 Tryz.underlying23 h
  rw [cells23] at hlen
  obtain ⟨c0, c1, c2, rfl⟩ := list3' hlen
  simp only [cells9'] at h0 h1 h2
  obtain ⟨s0, e0, _, hs0⟩ := DataW.trod_string Tryz.underlying9 h0
  obtain ⟨s1, e1, _, hs1⟩ := DataW.trod_string Tryz.underlying9 h1
  obtain ⟨s2, e2, _, hs2⟩ := DataW.trod_string Tryz.underlying9 h2
  simp at e0 e1 e2
  exact ⟨⟨s0, s1, s2⟩, by rw [e0, e1, e2], hs0, hs1, hs2⟩
theorem look_cells {H : Type} {enc : TypeId × Value → H} {w : World} {base : Nat} {sp : Nat → Bool} {held : Bool} {fuel : Nat} {cs : List Value} {y : DataW H × List MemPlace}
    (h : DataW.trod enc Tryz.prog w base sp held fuel 109 cs = some y) : ∃ x : L4, cs = [.bool x.has, .string x.nm, .int .i64 x.cd, .string x.tx] ∧ x.le maxLen := by
  obtain ⟨y0, y1, y2, n, hx, hlen, h0, h1, h2⟩ := Go.Deep.trod_struct3 Tryz.underlying109 h
  rw [cells109] at hlen
  obtain ⟨c0, c1, c2, c3, rfl⟩ := list4' hlen
  simp only [cells9', cells4, cells26] at h0 h1 h2
  obtain ⟨s0, e0, _⟩ := DataW.trod_bool Tryz.underlying4 h0
  obtain ⟨s1, e1, _, hs1⟩ := DataW.trod_string Tryz.underlying9 h1
  obtain ⟨c, t, e2, ht⟩ := res_cells h2
  simp at e0 e1 e2
  exact ⟨⟨s0, s1, c, t⟩, by rw [e0, e1, e2.1, e2.2], hs1, ht⟩
theorem add_none' (b off i : Nat) : (⟨b, off, none⟩ : Addr).add i = ⟨b, off + i, none⟩ := by unfold Addr.add; split <;> simp_all
/-- A slice of looks that came in. -/
theorem openedL {H : Type} {enc : TypeId × Value → H} {W : World} {fuel : Nat} {cs : List Value} {y : DataW H × List MemPlace}
    (hf : DataW.trod enc Tryz.prog W 0 (fun _ => true) true fuel 24 cs = some y) :
    ∃ (a : Option Addr) (cap : Nat) (is : List L4), cs = [.slice a is.length cap] ∧ is.length ≤ maxLen ∧ (∀ i, (is.getD i l4z).le maxLen) ∧ LksAt W a is := by
  rcases Go.Deep.open_slice Tryz.underlying24 hf with ⟨rfl, _⟩ | ⟨a, len, cap, m, n, D, Pl, rfl, _, hl, hm, hmm, _, hx⟩
  · exact ⟨none, 0, [], rfl, Nat.zero_le _, getD_smallL (fun i hi => absurd hi (Nat.not_lt_zero _)), .inl rfl⟩
  · simp only [if_true] at hmm
    subst hmm
    have hex : ∀ i, i < m → ∃ x : L4, W.cells? 0 (a.add (i * 4)) 4 = some [.bool x.has, .string x.nm, .int .i64 x.cd, .string x.tx] ∧ x.le maxLen := fun i hi => by
      obtain ⟨cs', h1, h2⟩ := hx i hi
      obtain ⟨x, rfl, hs⟩ := look_cells h2
      rw [cells109] at h1
      exact ⟨x, h1, hs⟩
    obtain ⟨V, hV⟩ := @Go.Deep.choose_lt L4 ⟨l4z⟩ m (fun i x => W.cells? 0 (a.add (i * 4)) 4 = some [.bool x.has, .string x.nm, .int .i64 x.cd, .string x.tx] ∧ x.le maxLen) hex
    have hlen : ((List.range len).map V).length = len := by simp
    have hget : ∀ i, i < len → ((List.range len).map V).getD i l4z = V i := fun i hi => by simp [List.getD, hi]
    refine ⟨some a, m, (List.range len).map V, by rw [hlen], by rw [hlen]; omega, getD_smallL (fun i hi => ?_), ?_⟩
    · rw [hlen] at hi
      rw [hget i hi]
      exact (hV i (by omega)).2
    · rcases Nat.eq_zero_or_pos len with h0 | h0
      · exact .inl (by rw [h0]; rfl)
      · obtain ⟨b, off, spot⟩ := a
        obtain ⟨_, _, hc⟩ := World.cells?_some (hV 0 (by omega)).1
        have hc0 := hc 0 (by omega)
        have hspot : spot = none := by simpa [Addr.add] using World.cell?_spot hc0
        subst hspot
        refine .inr ⟨b, off, rfl, ?_, fun i hi => ?_⟩
        · rw [add_none', add_none'] at hc0
          rcases Nat.lt_or_ge b W.heap.size with h | h
          · exact h
          · simp [World.cell?, Array.getElem?_eq_none h] at hc0
        · rw [hlen] at hi
          rw [hget i hi]
          obtain ⟨_, _, hc⟩ := World.cells?_some (hV i (by omega)).1
          have e0 := hc 0 (by omega)
          have e1 := hc 1 (by omega)
          have e2 := hc 2 (by omega)
          have e3 := hc 3 (by omega)
          rw [add_none', add_none'] at e0 e1 e2 e3
          exact ⟨e0, e1, e2, e3⟩
theorem turn_cells {H : Type} {enc : TypeId × Value → H} {w : World} {base : Nat} {sp : Nat → Bool} {held : Bool} {fuel : Nat} {cs : List Value} {y : DataW H × List MemPlace}
    (h : DataW.trod enc Tryz.prog w base sp held fuel 28 cs = some y) : ∃ x : T6, cs = [.bool x.over, .int .i64 x.cd, .string x.tx, .bool x.has, .string x.nm, .int .i64 x.st] ∧ x.le maxLen := by
  obtain ⟨y0, y1, y2, y3, y4, n, hlen, h0, h1, h2, h3, h4⟩ := struct5 Tryz.underlying28 h
  rw [cells28] at hlen
  obtain ⟨c0, c1, c2, c3, c4, c5, rfl⟩ := list6' hlen
  simp only [cells9', cells4, cells26, cells3] at h0 h1 h2 h3 h4
  obtain ⟨s0, e0, _⟩ := DataW.trod_bool Tryz.underlying4 h0
  obtain ⟨c, t, e1, ht⟩ := res_cells h1
  obtain ⟨s2, e2, _⟩ := DataW.trod_bool Tryz.underlying4 h2
  obtain ⟨s3, e3, _, hs3⟩ := DataW.trod_string Tryz.underlying9 h3
  obtain ⟨s4, e4, _, _⟩ := DataW.trod_int Tryz.underlying3 h4
  simp at e0 e1 e2 e3 e4
  obtain ⟨e10, e11⟩ := e1
  subst e0 e10 e11 e2 e3 e4
  exact ⟨⟨s0, c, t, s2, s3, s4⟩, rfl, ht, hs3⟩
theorem msg_cells {H : Type} {enc : TypeId × Value → H} {W : World} {fuel : Nat} {cs : List Value} {y : DataW H × List MemPlace}
    (h : DataW.trod enc Tryz.prog W 0 (fun _ => true) true fuel 30 cs = some y) : ∃ x : G16, ∃ ai ci, cs = [.int .i64 x.kd, .int .i64 x.to, .int .i64 x.fr, .int .i64 x.ep, .int .i64 x.ed, .string x.km.nm, .string x.km.tl, .string x.km.ar, .slice ai x.ls.length ci, .int .i64 x.ct, .bool x.tn.over, .int .i64 x.tn.cd, .string x.tn.tx, .bool x.tn.has, .string x.tn.nm, .int .i64 x.tn.st] ∧ x.le maxLen ∧ LksAt W ai x.ls := by
  obtain ⟨y0, y1, y2, y3, y4, y5, y6, y7, y8, n, hlen, h0, h1, h2, h3, h4, h5, h6, h7, h8⟩ := struct9 Tryz.underlying30 h
  rw [cells30] at hlen
  obtain ⟨c0, c1, c2, c3, c4, c5, c6, c7, c8, c9, c10, c11, c12, c13, c14, c15, rfl⟩ := list16' hlen
  simp only [cells23, cells24, cells28, cells3] at h0 h1 h2 h3 h4 h5 h6 h7 h8
  obtain ⟨s0, e0, _, _⟩ := DataW.trod_int Tryz.underlying3 h0
  obtain ⟨s1, e1, _, _⟩ := DataW.trod_int Tryz.underlying3 h1
  obtain ⟨s2, e2, _, _⟩ := DataW.trod_int Tryz.underlying3 h2
  obtain ⟨s3, e3, _, _⟩ := DataW.trod_int Tryz.underlying3 h3
  obtain ⟨s4, e4, _, _⟩ := DataW.trod_int Tryz.underlying3 h4
  obtain ⟨m, e5, hm⟩ := make_cells h5
  obtain ⟨ai, ci, ls, e6, hl, hs, hat⟩ := openedL h6
  obtain ⟨s7, e7, _, _⟩ := DataW.trod_int Tryz.underlying3 h7
  obtain ⟨t, e8, ht⟩ := turn_cells h8
  simp at e0 e1 e2 e3 e4 e5 e6 e7 e8
  obtain ⟨e50, e51, e52⟩ := e5
  obtain ⟨e80, e81, e82, e83, e84, e85⟩ := e8
  subst e0 e1 e2 e3 e4 e50 e51 e52 e6 e7 e80 e81 e82 e83 e84 e85
  exact ⟨⟨s0, s1, s2, s3, s4, m, ls, s7, t⟩, ai, ci, rfl, ⟨hm, ⟨hl, hs⟩, ht⟩, hat⟩
theorem laidMet_tail {P : Program} {x : String × DataW Unit} {l : List (String × DataW Unit)} {w : World} (h : laidMet P (x :: l) w) : laidMet P l w := by
  obtain ⟨ps, hv, hnd, hc⟩ := h
  obtain ⟨n, d⟩ := x
  obtain ⟨g, t, cs, fuel, p, q, h1, h2, h3, h4, h5, rfl⟩ := hv
  exact ⟨q, h5, (List.nodup_append.1 hnd).2.1, fun b off hm => hc b off (List.mem_append_right _ hm)⟩
/-- The table of Itoa, by the row's own condition. -/
theorem pow_of_laid {W : World} (h : laidMet Tryz.prog Rows.fnExactFormMessageRow.laid W) : Pow W := by
  have h2 := laidMet_tail (laidMet_tail h)
  exact Lib.tabIs_of_head (g := 1) (t := 193) (e := 112) (n := 20) (by kernel_rfl) (by kernel_rfl) (by kernel_rfl) (by kernel_rfl) (by kernel_rfl) (by kernel_rfl) h2
theorem own : ownKnob Tryz.prog.godebug = none := by kernel_rfl
theorem laidOut : laidOutB Tryz.prog = true := by kernel_rfl
set_option maxHeartbeats 4000000 in
set_option maxRecDepth 100000 in
theorem contract (H : Type) (enc : TypeId × Value → H) (W : World) (base : Nat) (args : Array Value) (ds gs : List (DataW H)) (before : List MemPlace)
    (hval : ∀ (j : Nat) t v, Tryz.f4.params[j]? = some t → args[j]? = some v → Value.okWide Tryz.prog W .any base t v)
    (hW : DataW.Whole enc Tryz.prog Tryz.f4.params.toList Rows.fnExactFormMessageSpec.vars false W args.toList ds gs before) (hL : laidMetH Tryz.prog Rows.fnExactFormMessageRow.laid W) :
    Calls Tryz.prog 4 args W fun e W' => ∃ v, e = .returned v ∧ Rows.fnExactFormMessageSpec.post enc Tryz.prog Tryz.f4 false true false false W args v W' := by
  have hW' := hW
  obtain ⟨p, q, hA0, hV, rfl, hfz, hnd⟩ := hW
  have hA : DataW.TrodAll enc Tryz.prog W 0 (fun _ => true) true Tryz.f4.params.toList args.toList ds p := hA0
  rw [Tryz.params4] at hA hval
  obtain ⟨v0, vs0, d0, ds0, p0, q0, hargs, rfl, rfl, h0, r0⟩ := trodAll_cons hA
  obtain ⟨v1, vs1, d1, ds1, p1, q1, hargs1, rfl, rfl, h1, r1⟩ := trodAll_cons r0
  obtain ⟨rfl, rfl, rfl⟩ := trodAll_nil r1
  rw [hargs1] at hargs
  obtain rfl : args = #[v0, v1] := Array.ext' hargs
  obtain ⟨rfl, rfl⟩ := trodVars_none hV
  have k0 := h0
  have lt0 : ∀ x ∈ p0, x.block < W.heap.size := by obtain ⟨m, hm⟩ := k0; exact DataW.trod_lt m _ _ _ hm
  obtain ⟨cs, rfl, hsz⟩ := okWide_struct Tryz.underlying30 (hval 0 30 v0 rfl rfl)
  obtain ⟨fuel, hf⟩ := h0
  obtain ⟨x, ai, ci, hcs, hs, hat⟩ := msg_cells hf
  obtain rfl : cs = #[.int .i64 x.kd, .int .i64 x.to, .int .i64 x.fr, .int .i64 x.ep, .int .i64 x.ed, .string x.km.nm, .string x.km.tl, .string x.km.ar, .slice ai x.ls.length ci, .int .i64 x.ct, .bool x.tn.over, .int .i64 x.tn.cd, .string x.tn.tx, .bool x.tn.has, .string x.tn.nm, .int .i64 x.tn.st] := by
    obtain ⟨l⟩ := cs
    simp [Value.cells] at hcs
    rw [hcs]
  have k1 := h1
  have lt1 : ∀ x ∈ p1, x.block < W.heap.size := by obtain ⟨m, hm⟩ := k1; exact DataW.trod_lt m _ _ _ hm
  obtain ⟨fuel1, hf1⟩ := h1
  obtain ⟨key, e1, _, hks⟩ := DataW.trod_string Tryz.underlying9 hf1
  obtain rfl : v1 = .string key := by
    have h9 := okWide_string Tryz.underlying9 (hval 1 9 v1 rfl rfl)
    obtain ⟨s9, rfl⟩ := h9
    simpa [Value.cells] using e1
  clear hA0 hcs
  have hM : maxLen ≤ 9223372036854775807 := by unfold maxLen; omega
  refine (c4 x key ai ci W (pow_of_laid hL) ⟨⟨Nat.le_trans hs.1.1 hM, Nat.le_trans hs.1.2.1 hM, Nat.le_trans hs.1.2.2 hM⟩, ⟨Nat.le_trans hs.2.1.1 hM, fun j => ⟨Nat.le_trans (hs.2.1.2 j).1 hM, Nat.le_trans (hs.2.1.2 j).2 hM⟩⟩, ⟨Nat.le_trans hs.2.2.1 hM, Nat.le_trans hs.2.2.2 hM⟩⟩ hat (Nat.le_trans hks hM)).mono fun e W' ⟨he, bel⟩ => ?_
  subst he
  exact ⟨_, rfl, _, _, _, [], _, [], hW', trodAll_mk1 (shut_bool Tryz.underlying4 _), (trodAll_cons_mk (Below.trod laidOut (by kernel_rfl) (of_decide_eq_true (by kernel_rfl)) k0 bel lt0) (trodAll_cons_mk (Below.trod laidOut (by kernel_rfl) (of_decide_eq_true (by kernel_rfl)) k1 bel lt1) trodAll_mk0)), rfl, bel.frame _, fun h => by cases h⟩

/-- The cells that a table's datum is. -/
def cell1 : DataW Unit → Value
  | .lit (.int k n) => .int k n
  | .lit (.bool b) => .bool b
  | .lit (.string l) => .string ⟨l.toArray⟩
  | _ => .bool false
def cells1 : DataW Unit → List Value
  | .agg es => es.map cell1
  | d => [cell1 d]
def cells2 : DataW Unit → Array Value
  | .agg ds => (ds.flatMap cells1).toArray
  | _ => #[]
/-- A world for the witness: the settled one, the listed tables holding what their initialisers lay. -/
def withTab (g : Nat) (t : Array Value) (w : World) : World := { w with heap := w.heap.modify g fun
      | .cells _ ty frozen => .cells t ty frozen
      | o => o }
noncomputable def laidWorld (os : Os) : World := withTab 1 (cells2 Rows.laid_internal_strconv_uint64pow10) (withTab 2 (cells2 Rows.laid_unicode_utf8_first) (withTab 3 (cells2 Rows.laid_unicode_utf8_acceptRanges) (withTab 4 (cells2 Rows.laid_math_bits_deBruijn32tab) (withTab 5 (cells2 Rows.laid_math_bits_deBruijn64tab) (World.holding Tryz.prog os ⟨#[], #[], []⟩)))))
set_option maxRecDepth 100000 in
theorem laid_met (os : Os) : laidMet Tryz.prog Rows.fnExactFormMessageRow.laid ((laidWorld os).forCall (fun _ _ => 0) ⟨#[], #[.agg #[.int .i64 0, .int .i64 0, .int .i64 0, .int .i64 0, .int .i64 0, .string ⟨#[]⟩, .string ⟨#[]⟩, .string ⟨#[]⟩, .slice none 0 0, .int .i64 0, .bool false, .int .i64 0, .string ⟨#[]⟩, .bool false, .string ⟨#[]⟩, .int .i64 0], .string ⟨#[]⟩], []⟩).memory :=
  laidMet_of_run' 8 (by kernel_rfl) (by kernel_rfl)
set_option maxRecDepth 100000 in
theorem reads (os : Os) {H : Type} (enc : TypeId × Value → H) : ∃ ds gs places, DataW.whole enc Tryz.prog ((laidWorld os).forCall (fun _ _ => 0) ⟨#[], #[.agg #[.int .i64 0, .int .i64 0, .int .i64 0, .int .i64 0, .int .i64 0, .string ⟨#[]⟩, .string ⟨#[]⟩, .string ⟨#[]⟩, .slice none 0 0, .int .i64 0, .bool false, .int .i64 0, .string ⟨#[]⟩, .bool false, .string ⟨#[]⟩, .int .i64 0], .string ⟨#[]⟩], []⟩).memory Tryz.f4.params.toList Rows.fnExactFormMessageSpec.vars false (#[.agg #[.int .i64 0, .int .i64 0, .int .i64 0, .int .i64 0, .int .i64 0, .string ⟨#[]⟩, .string ⟨#[]⟩, .string ⟨#[]⟩, .slice none 0 0, .int .i64 0, .bool false, .int .i64 0, .string ⟨#[]⟩, .bool false, .string ⟨#[]⟩, .int .i64 0], .string ⟨#[]⟩] : Array Value).toList 8 = some (ds, gs, places) := by
  have h : (DataW.whole enc Tryz.prog ((laidWorld os).forCall (fun _ _ => 0) ⟨#[], #[.agg #[.int .i64 0, .int .i64 0, .int .i64 0, .int .i64 0, .int .i64 0, .string ⟨#[]⟩, .string ⟨#[]⟩, .string ⟨#[]⟩, .slice none 0 0, .int .i64 0, .bool false, .int .i64 0, .string ⟨#[]⟩, .bool false, .string ⟨#[]⟩, .int .i64 0], .string ⟨#[]⟩], []⟩).memory Tryz.f4.params.toList Rows.fnExactFormMessageSpec.vars false (#[.agg #[.int .i64 0, .int .i64 0, .int .i64 0, .int .i64 0, .int .i64 0, .string ⟨#[]⟩, .string ⟨#[]⟩, .string ⟨#[]⟩, .slice none 0 0, .int .i64 0, .bool false, .int .i64 0, .string ⟨#[]⟩, .bool false, .string ⟨#[]⟩, .int .i64 0], .string ⟨#[]⟩] : Array Value).toList 8).isSome = true := by kernel_rfl
  obtain ⟨⟨a, b, c⟩, e⟩ := Option.isSome_iff_exists.1 h
  exact ⟨a, b, c, e⟩

set_option maxRecDepth 100000 in
theorem lifted (os : Os) (started : os.Started) (H : Type) (enc : TypeId × Value → H) (F : Stop.Interp) :
    ReturnsInHanded {} Tryz.checked os 4 .any ((OpenSpec.ofChange Rows.fnExactFormMessageSpec).preRow enc Tryz.prog Tryz.f4 Rows.fnExactFormMessageRow.domain false Rows.fnExactFormMessageRow.laid) (((OpenSpec.ofChange Rows.fnExactFormMessageSpec).at F).post enc Tryz.prog Tryz.f4 false true false false) := by
  obtain ⟨ds, gs, places, hx⟩ := reads os enc
  refine returnsInHanded_of_row (C := Tryz.checked) (s := OpenSpec.ofChange Rows.fnExactFormMessageSpec) own started (by kernel_rfl) Tryz.func4
    (witness_row_atRef (enc := enc) (C := Tryz.checked) false (laidWorld os) #[.agg #[.int .i64 0, .int .i64 0, .int .i64 0, .int .i64 0, .int .i64 0, .string ⟨#[]⟩, .string ⟨#[]⟩, .string ⟨#[]⟩, .slice none 0 0, .int .i64 0, .bool false, .int .i64 0, .string ⟨#[]⟩, .bool false, .string ⟨#[]⟩, .int .i64 0], .string ⟨#[]⟩] rfl (by kernel_rfl) (by kernel_rfl) (by kernel_rfl)
      (OpenSpec.preRow_of_cond 8 hx (by kernel_rfl) (fun k hk => by cases hk) (by kernel_rfl) (laid_met os))) ?_
  intro W base args ds gs before hval hW _ _ _ hL hSO _
  exact contract H enc W base args ds gs before hval hW hL

theorem said : Rows.FnExactFormMessageSaid :=
  OpenClaim.holds_of_cond 4 Tryz.f4 rfl rfl rfl rfl rfl rfl rfl ⟨rfl, rfl, rfl, rfl, rfl⟩ rfl rfl rfl rfl rfl (by kernel_rfl) Tryz.func4 (by kernel_rfl)
    (of_decide_eq_true (by kernel_rfl)) (by unfold Func.isWrapper; first | (rw [if_pos (by decide +kernel)]; kernel_rfl) | (rw [if_neg (by decide +kernel)]; exact ⟨rfl, rfl⟩))
    (fun os started H enc _ F => by rw [OpenClaim.pre_eq_preRow]; exact lifted os started H enc F)

theorem plain (f : FuncId) (fn : Func) (hf : Tryz.pinned.checked.prog.funcNamed "loop.example/kiln/laws.FnExactFormMessage" = some f) (hfn : Tryz.pinned.checked.prog.funcs[f]? = some fn) :
    false = Tryz.pinned.checked.prog.looks [] ∧ ∀ (j : Nat) t, fn.params[j]? = some t → Tryz.pinned.checked.prog.wantsStandIn t = false := by
  obtain rfl : f = 4 := Option.some.inj ((show Tryz.prog.funcNamed "loop.example/kiln/laws.FnExactFormMessage" = some 4 by kernel_rfl).symm.trans hf) |>.symm
  obtain rfl : fn = Tryz.f4 := (Option.some.inj (Tryz.func4.symm.trans hfn)).symm
  refine ⟨by kernel_rfl, fun j t ht => ?_⟩
  rw [Tryz.params4] at ht
  have hm := Array.mem_of_getElem? ht
  simp at hm
  rcases hm with rfl | rfl
  · exact (show Tryz.prog.wantsStandIn 30 = false by kernel_rfl)
  · exact (show Tryz.prog.wantsStandIn 9 = false by kernel_rfl)

theorem card : Rows.FnExactFormMessageCardSaid :=
  Claim7.holds_tied_plain_at .later [] _ _ _ _ said (fun _ h => by cases h) (by kernel_rfl) (fun _ h => by cases h) fnExactFormMessage_row_tie rfl ⟨rfl, rfl⟩ (by kernel_rfl) rfl plain (by kernel_rfl)
end Go.Proofs.YtdcgjdgpiogdaaaGreatDoor.fnExactFormMessage
namespace Go.Proofs.YtdcgjdgpiogdaaaGreatDoor
theorem fnExactFormMessage_holds : Rows.FnExactFormMessageCardSaid := fnExactFormMessage.card
#print axioms fnExactFormMessage_holds
end Go.Proofs.YtdcgjdgpiogdaaaGreatDoor
