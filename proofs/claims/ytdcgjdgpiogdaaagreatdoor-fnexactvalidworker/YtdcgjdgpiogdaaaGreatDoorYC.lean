import Derived.Test.YtdcgjdgpiogdaaaGreatDoorYB
import Derived.Test.YtdcgjdgpiogdaaaGreatDoorX3
import Derived.Test.YtdcgjdgpiogdaaaGreatDoorX4
namespace Go.Proofs.YtdcgjdgpiogdaaaGreatDoor
open Go.RowKit
theorem BlkAt.drew {u : World} {B : Nat} {vs : List Value} (h : BlkAt u B vs) : BlkAt u.drew B vs := fun j v e => by simpa using h j v e
theorem load_exec {P : Program} {w : World} {ty : TypeId} {ad : Addr} {v : Value} (h : (loadVar ty ad).run P w = .ok v w) : ((Sem.run P (Instr.loadAt ty (.pointer (some ad))) w).andThen fun a w' => Result.ok (Next.value a) w') = .ok (.value v) w := by
  simp only [Instr.loadAt, Instr.sureAddr, Sem.run_bind, Sem.run_pure, Result.andThen_ok, h]
set_option maxHeartbeats 16000000 in
set_option maxRecDepth 100000 in
theorem c3 (x : W19) (ai : Option Addr) (ci : Nat) (w : World) (hs : x.of.le 9223372036854775807) (hat : LksAt w ai x.of.ls) :
    Calls Tryz.prog 3 #[.agg #[.int .i64 x.no, .bool x.up, .bool x.has, .int .i64 x.of.kd, .int .i64 x.of.to, .int .i64 x.of.fr, .int .i64 x.of.ep, .int .i64 x.of.ed, .string x.of.km.nm, .string x.of.km.tl, .string x.of.km.ar, .slice ai x.of.ls.length ci, .int .i64 x.of.ct, .bool x.of.tn.over, .int .i64 x.of.tn.cd, .string x.of.tn.tx, .bool x.of.tn.has, .string x.of.tn.nm, .int .i64 x.of.tn.st]] w fun e w' => e = .returned (.bool true) ∧ Below w.heap.size w w' := by
  have HA : Hid (LksAt w ai x.of.ls) := hat
  have HSS : Hid (x.of.le 9223372036854775807) := hs
  have hB0 : Below w.heap.size w (w.alloc (.cells #[.int .i64 x.no, .bool x.up, .bool x.has, .int .i64 x.of.kd, .int .i64 x.of.to, .int .i64 x.of.fr, .int .i64 x.of.ep, .int .i64 x.of.ed, .string x.of.km.nm, .string x.of.km.tl, .string x.of.km.ar, .slice ai x.of.ls.length ci, .int .i64 x.of.ct, .bool x.of.tn.over, .int .i64 x.of.tn.cd, .string x.of.tn.tx, .bool x.of.tn.has, .string x.of.tn.nm, .int .i64 x.of.tn.st] 32)) := (Below.refl _ _).alloc (Nat.le_refl _) _
  have Z0 : BlkAt (w.alloc (.cells #[.int .i64 x.no, .bool x.up, .bool x.has, .int .i64 x.of.kd, .int .i64 x.of.to, .int .i64 x.of.fr, .int .i64 x.of.ep, .int .i64 x.of.ed, .string x.of.km.nm, .string x.of.km.tl, .string x.of.km.ar, .slice ai x.of.ls.length ci, .int .i64 x.of.ct, .bool x.of.tn.over, .int .i64 x.of.tn.cd, .string x.of.tn.tx, .bool x.of.tn.has, .string x.of.tn.nm, .int .i64 x.of.tn.st] 32)) w.heap.size [.int .i64 x.no, .bool x.up, .bool x.has, .int .i64 x.of.kd, .int .i64 x.of.to, .int .i64 x.of.fr, .int .i64 x.of.ep, .int .i64 x.of.ed, .string x.of.km.nm, .string x.of.km.tl, .string x.of.km.ar, .slice ai x.of.ls.length ci, .int .i64 x.of.ct, .bool x.of.tn.over, .int .i64 x.of.tn.cd, .string x.of.tn.tx, .bool x.of.tn.has, .string x.of.tn.nm, .int .i64 x.of.tn.st] := blk_new w [.int .i64 x.no, .bool x.up, .bool x.has, .int .i64 x.of.kd, .int .i64 x.of.to, .int .i64 x.of.fr, .int .i64 x.of.ep, .int .i64 x.of.ed, .string x.of.km.nm, .string x.of.km.tl, .string x.of.km.ar, .slice ai x.of.ls.length ci, .int .i64 x.of.ct, .bool x.of.tn.over, .int .i64 x.of.tn.cd, .string x.of.tn.tx, .bool x.of.tn.has, .string x.of.tn.nm, .int .i64 x.of.tn.st] 32
  have hz0 : w.heap.size < (w.alloc (.cells #[.int .i64 x.no, .bool x.up, .bool x.has, .int .i64 x.of.kd, .int .i64 x.of.to, .int .i64 x.of.fr, .int .i64 x.of.ep, .int .i64 x.of.ed, .string x.of.km.nm, .string x.of.km.tl, .string x.of.km.ar, .slice ai x.of.ls.length ci, .int .i64 x.of.ct, .bool x.of.tn.over, .int .i64 x.of.tn.cd, .string x.of.tn.tx, .bool x.of.tn.has, .string x.of.tn.nm, .int .i64 x.of.tn.st] 32)).heap.size := by simp
  clear hat hs
  go_enter Tryz.func3, Tryz.ntmps3
  go_wp2_with (refine wpList_load_blk rfl 32 (.tmp 1) rfl w.heap.size rfl [.int .i64 x.no, .bool x.up, .bool x.has, .int .i64 x.of.kd, .int .i64 x.of.to, .int .i64 x.of.fr, .int .i64 x.of.ep, .int .i64 x.of.ed, .string x.of.km.nm, .string x.of.km.tl, .string x.of.km.ar, .slice ai x.of.ls.length ci, .int .i64 x.of.ct, .bool x.of.tn.over, .int .i64 x.of.tn.cd, .string x.of.tn.tx, .bool x.of.tn.has, .string x.of.tn.nm, .int .i64 x.of.tn.st] _ Z0 Tryz.underlying32 rfl (by kernel_rfl) ?_)
  generalize (w.alloc (.cells #[.int .i64 x.no, .bool x.up, .bool x.has, .int .i64 x.of.kd, .int .i64 x.of.to, .int .i64 x.of.fr, .int .i64 x.of.ep, .int .i64 x.of.ed, .string x.of.km.nm, .string x.of.km.tl, .string x.of.km.ar, .slice ai x.of.ls.length ci, .int .i64 x.of.ct, .bool x.of.tn.over, .int .i64 x.of.tn.cd, .string x.of.tn.tx, .bool x.of.tn.has, .string x.of.tn.nm, .int .i64 x.of.tn.st] 32)) = V at *
  refine (c7 x ai ci 1048576 V HSS.out (by omega) (by omega) (lks_below HA.out hB0)).mono ?_
  rintro e w1 ⟨⟨r, rfl, hr⟩, hb1⟩
  have hB1 : Below w.heap.size w w1 := hB0.trans (hb1.mono hB0.size)
  have hz1 : w.heap.size < w1.heap.size := Nat.lt_of_lt_of_le hz0 hb1.size
  have Z1 := Z0.below hb1 hz0
  clear hb1 Z0
  by_cases h0 : 0 ≤ r
  · obtain ⟨hs', hr'⟩ := hr h0
    have HS : Hid (x.of.le 1048576) := hs'
    have hl' : x.of.ls.length ≤ 1048576 := hs'.2.1.1
    clear hr hs'
    go_wp2_with (refine wpList_load_blk rfl 32 (.tmp 1) rfl w.heap.size rfl [.int .i64 x.no, .bool x.up, .bool x.has, .int .i64 x.of.kd, .int .i64 x.of.to, .int .i64 x.of.fr, .int .i64 x.of.ep, .int .i64 x.of.ed, .string x.of.km.nm, .string x.of.km.tl, .string x.of.km.ar, .slice ai x.of.ls.length ci, .int .i64 x.of.ct, .bool x.of.tn.over, .int .i64 x.of.tn.cd, .string x.of.tn.tx, .bool x.of.tn.has, .string x.of.tn.nm, .int .i64 x.of.tn.st] _ Z1 Tryz.underlying32 rfl (by kernel_rfl) ?_)
    refine (c9 x ai ci w1 hl' (lks_below HA.out hB1)).mono ?_
    rintro e wa ⟨⟨G1, hG1, rfl, hLG1⟩, hba⟩
    have hBa : Below w.heap.size w wa := hB1.trans (hba.mono hB1.size)
    have hza1 : w.heap.size < wa.heap.size := Nat.lt_of_lt_of_le hz1 hba.size
    have Za := Z1.below hba hz1
    clear hba Z1
    go_wp2_with fail
    refine (c8 x (some ⟨G1, 0, none⟩) x.of.ls.length wa HS.out hLG1).mono ?_
    rintro e wb ⟨⟨g, rfl, hg⟩, hbb⟩
    have HG : Hid (g = true ↔ WkOk x) := hg
    have hBb : Below w.heap.size w wb := hBa.trans (hbb.mono hBa.size)
    have hzb : w.heap.size < wb.heap.size := Nat.lt_of_lt_of_le hza1 hbb.size
    have Zb := Za.below hbb hza1
    clear hbb Za hg hLG1
    go_wp2_with (refine wpList_load_blk rfl 32 (.tmp 1) rfl w.heap.size rfl [.int .i64 x.no, .bool x.up, .bool x.has, .int .i64 x.of.kd, .int .i64 x.of.to, .int .i64 x.of.fr, .int .i64 x.of.ep, .int .i64 x.of.ed, .string x.of.km.nm, .string x.of.km.tl, .string x.of.km.ar, .slice ai x.of.ls.length ci, .int .i64 x.of.ct, .bool x.of.tn.over, .int .i64 x.of.tn.cd, .string x.of.tn.tx, .bool x.of.tn.has, .string x.of.tn.nm, .int .i64 x.of.tn.st] _ Zb Tryz.underlying32 rfl (by kernel_rfl) ?_)
    refine (c9 x ai ci wb hl' (lks_below HA.out hBb)).mono ?_
    rintro e wc ⟨⟨G2, hG2, rfl, hLG2⟩, hbc⟩
    have hBc : Below w.heap.size w wc := hBb.trans (hbc.mono hBb.size)
    have hzc : w.heap.size < wc.heap.size := Nat.lt_of_lt_of_le hzb hbc.size
    have Zc := Zb.below hbc hzb
    have hGc : wc.heap.size ≠ G2 ∨ x.of.ls = [] := by
      rcases hLG2 with h | ⟨b, off, h1, h2, h3⟩
      · exact .inr h
      · injection h1 with h1; injection h1 with h1 _; exact .inl (by omega)
    have HLC : Hid (LksAt wc (some ⟨G2, 0, none⟩) x.of.ls) := hLG2
    have hmark : True := trivial
    have ZN : BlkAt (wc.alloc (.cells #[.int .i64 0, .bool false, .bool false, .int .i64 0, .int .i64 0, .int .i64 0, .int .i64 0, .int .i64 0, .string ⟨#[]⟩, .string ⟨#[]⟩, .string ⟨#[]⟩, .slice none 0 0, .int .i64 0, .bool false, .int .i64 0, .string ⟨#[]⟩, .bool false, .string ⟨#[]⟩, .int .i64 0] 43)) wc.heap.size [.int .i64 0, .bool false, .bool false, .int .i64 0, .int .i64 0, .int .i64 0, .int .i64 0, .int .i64 0, .string ⟨#[]⟩, .string ⟨#[]⟩, .string ⟨#[]⟩, .slice none 0 0, .int .i64 0, .bool false, .int .i64 0, .string ⟨#[]⟩, .bool false, .string ⟨#[]⟩, .int .i64 0] := blk_new wc [.int .i64 0, .bool false, .bool false, .int .i64 0, .int .i64 0, .int .i64 0, .int .i64 0, .int .i64 0, .string ⟨#[]⟩, .string ⟨#[]⟩, .string ⟨#[]⟩, .slice none 0 0, .int .i64 0, .bool false, .int .i64 0, .string ⟨#[]⟩, .bool false, .string ⟨#[]⟩, .int .i64 0] 43
    have FN : OpnAt (wc.alloc (.cells #[.int .i64 0, .bool false, .bool false, .int .i64 0, .int .i64 0, .int .i64 0, .int .i64 0, .int .i64 0, .string ⟨#[]⟩, .string ⟨#[]⟩, .string ⟨#[]⟩, .slice none 0 0, .int .i64 0, .bool false, .int .i64 0, .string ⟨#[]⟩, .bool false, .string ⟨#[]⟩, .int .i64 0] 43)) wc.heap.size := opn_new wc _ 43
    clear hbc Zb hLG2
    have hSome : ∀ i, i < ([.int .i64 x.no, .bool x.up, .bool x.has, .int .i64 x.of.kd, .int .i64 x.of.to, .int .i64 x.of.fr, .int .i64 x.of.ep, .int .i64 x.of.ed, .string x.of.km.nm, .string x.of.km.tl, .string x.of.km.ar, .slice (some ⟨G2, 0, none⟩) x.of.ls.length x.of.ls.length, .int .i64 x.of.ct, .bool x.of.tn.over, .int .i64 x.of.tn.cd, .string x.of.tn.tx, .bool x.of.tn.has, .string x.of.tn.nm, .int .i64 x.of.tn.st] : List Value).length → ((wc.alloc (.cells #[.int .i64 0, .bool false, .bool false, .int .i64 0, .int .i64 0, .int .i64 0, .int .i64 0, .int .i64 0, .string ⟨#[]⟩, .string ⟨#[]⟩, .string ⟨#[]⟩, .slice none 0 0, .int .i64 0, .bool false, .int .i64 0, .string ⟨#[]⟩, .bool false, .string ⟨#[]⟩, .int .i64 0] 43)).cell? ⟨wc.heap.size, 0 + i, none⟩).isSome = true := fun i hi => by
      rw [Nat.zero_add]
      have hz : i < ([.int .i64 0, .bool false, .bool false, .int .i64 0, .int .i64 0, .int .i64 0, .int .i64 0, .int .i64 0, .string ⟨#[]⟩, .string ⟨#[]⟩, .string ⟨#[]⟩, .slice none 0 0, .int .i64 0, .bool false, .int .i64 0, .string ⟨#[]⟩, .bool false, .string ⟨#[]⟩, .int .i64 0] : List Value).length := hi
      rw [ZN i _ (List.getElem?_eq_getElem hz)]
      rfl
    go_wp2_with (refine wpList_store_blk rfl 43 (.tmp 5) (.tmp 16) rfl wc.heap.size 0 rfl [.int .i64 x.no, .bool x.up, .bool x.has, .int .i64 x.of.kd, .int .i64 x.of.to, .int .i64 x.of.fr, .int .i64 x.of.ep, .int .i64 x.of.ed, .string x.of.km.nm, .string x.of.km.tl, .string x.of.km.ar, .slice (some ⟨G2, 0, none⟩) x.of.ls.length x.of.ls.length, .int .i64 x.of.ct, .bool x.of.tn.over, .int .i64 x.of.tn.cd, .string x.of.tn.tx, .bool x.of.tn.has, .string x.of.tn.nm, .int .i64 x.of.tn.st] rfl hSome FN (by simp [Value.oneCell']) (by kernel_rfl) rfl ?_; revert hmark)
    clear hSome
    intro _
    have hXc : Below wc.heap.size wc (wc.alloc (.cells #[.int .i64 0, .bool false, .bool false, .int .i64 0, .int .i64 0, .int .i64 0, .int .i64 0, .int .i64 0, .string ⟨#[]⟩, .string ⟨#[]⟩, .string ⟨#[]⟩, .slice none 0 0, .int .i64 0, .bool false, .int .i64 0, .string ⟨#[]⟩, .bool false, .string ⟨#[]⟩, .int .i64 0] 43)) := (Below.refl _ _).alloc (Nat.le_refl _) _
    have hxF : BlkAt (fill (wc.alloc (.cells #[.int .i64 0, .bool false, .bool false, .int .i64 0, .int .i64 0, .int .i64 0, .int .i64 0, .int .i64 0, .string ⟨#[]⟩, .string ⟨#[]⟩, .string ⟨#[]⟩, .slice none 0 0, .int .i64 0, .bool false, .int .i64 0, .string ⟨#[]⟩, .bool false, .string ⟨#[]⟩, .int .i64 0] 43)) wc.heap.size 0 [.int .i64 x.no, .bool x.up, .bool x.has, .int .i64 x.of.kd, .int .i64 x.of.to, .int .i64 x.of.fr, .int .i64 x.of.ep, .int .i64 x.of.ed, .string x.of.km.nm, .string x.of.km.tl, .string x.of.km.ar, .slice (some ⟨G2, 0, none⟩) x.of.ls.length x.of.ls.length, .int .i64 x.of.ct, .bool x.of.tn.over, .int .i64 x.of.tn.cd, .string x.of.tn.tx, .bool x.of.tn.has, .string x.of.tn.nm, .int .i64 x.of.tn.st]) wc.heap.size [.int .i64 x.no, .bool x.up, .bool x.has, .int .i64 x.of.kd, .int .i64 x.of.to, .int .i64 x.of.fr, .int .i64 x.of.ep, .int .i64 x.of.ed, .string x.of.km.nm, .string x.of.km.tl, .string x.of.km.ar, .slice (some ⟨G2, 0, none⟩) x.of.ls.length x.of.ls.length, .int .i64 x.of.ct, .bool x.of.tn.over, .int .i64 x.of.tn.cd, .string x.of.tn.tx, .bool x.of.tn.has, .string x.of.tn.nm, .int .i64 x.of.tn.st] := BlkAt.fill [.int .i64 x.no, .bool x.up, .bool x.has, .int .i64 x.of.kd, .int .i64 x.of.to, .int .i64 x.of.fr, .int .i64 x.of.ep, .int .i64 x.of.ed, .string x.of.km.nm, .string x.of.km.tl, .string x.of.km.ar, .slice (some ⟨G2, 0, none⟩) x.of.ls.length x.of.ls.length, .int .i64 x.of.ct, .bool x.of.tn.over, .int .i64 x.of.tn.cd, .string x.of.tn.tx, .bool x.of.tn.has, .string x.of.tn.nm, .int .i64 x.of.tn.st] [] [.int .i64 0, .bool false, .bool false, .int .i64 0, .int .i64 0, .int .i64 0, .int .i64 0, .int .i64 0, .string ⟨#[]⟩, .string ⟨#[]⟩, .string ⟨#[]⟩, .slice none 0 0, .int .i64 0, .bool false, .int .i64 0, .string ⟨#[]⟩, .bool false, .string ⟨#[]⟩, .int .i64 0] [] 0 ZN rfl rfl
    have hbF : Below wc.heap.size wc (fill (wc.alloc (.cells #[.int .i64 0, .bool false, .bool false, .int .i64 0, .int .i64 0, .int .i64 0, .int .i64 0, .int .i64 0, .string ⟨#[]⟩, .string ⟨#[]⟩, .string ⟨#[]⟩, .slice none 0 0, .int .i64 0, .bool false, .int .i64 0, .string ⟨#[]⟩, .bool false, .string ⟨#[]⟩, .int .i64 0] 43)) wc.heap.size 0 [.int .i64 x.no, .bool x.up, .bool x.has, .int .i64 x.of.kd, .int .i64 x.of.to, .int .i64 x.of.fr, .int .i64 x.of.ep, .int .i64 x.of.ed, .string x.of.km.nm, .string x.of.km.tl, .string x.of.km.ar, .slice (some ⟨G2, 0, none⟩) x.of.ls.length x.of.ls.length, .int .i64 x.of.ct, .bool x.of.tn.over, .int .i64 x.of.tn.cd, .string x.of.tn.tx, .bool x.of.tn.has, .string x.of.tn.nm, .int .i64 x.of.tn.st]) := below_fill (Nat.le_refl _) _ _ hXc
    have hzF : wc.heap.size < (fill (wc.alloc (.cells #[.int .i64 0, .bool false, .bool false, .int .i64 0, .int .i64 0, .int .i64 0, .int .i64 0, .int .i64 0, .string ⟨#[]⟩, .string ⟨#[]⟩, .string ⟨#[]⟩, .slice none 0 0, .int .i64 0, .bool false, .int .i64 0, .string ⟨#[]⟩, .bool false, .string ⟨#[]⟩, .int .i64 0] 43)) wc.heap.size 0 [.int .i64 x.no, .bool x.up, .bool x.has, .int .i64 x.of.kd, .int .i64 x.of.to, .int .i64 x.of.fr, .int .i64 x.of.ep, .int .i64 x.of.ed, .string x.of.km.nm, .string x.of.km.tl, .string x.of.km.ar, .slice (some ⟨G2, 0, none⟩) x.of.ls.length x.of.ls.length, .int .i64 x.of.ct, .bool x.of.tn.over, .int .i64 x.of.tn.cd, .string x.of.tn.tx, .bool x.of.tn.has, .string x.of.tn.nm, .int .i64 x.of.tn.st]).heap.size := by rw [size_fill]; simp
    generalize (fill (wc.alloc (.cells #[.int .i64 0, .bool false, .bool false, .int .i64 0, .int .i64 0, .int .i64 0, .int .i64 0, .int .i64 0, .string ⟨#[]⟩, .string ⟨#[]⟩, .string ⟨#[]⟩, .slice none 0 0, .int .i64 0, .bool false, .int .i64 0, .string ⟨#[]⟩, .bool false, .string ⟨#[]⟩, .int .i64 0] 43)) wc.heap.size 0 [.int .i64 x.no, .bool x.up, .bool x.has, .int .i64 x.of.kd, .int .i64 x.of.to, .int .i64 x.of.fr, .int .i64 x.of.ep, .int .i64 x.of.ed, .string x.of.km.nm, .string x.of.km.tl, .string x.of.km.ar, .slice (some ⟨G2, 0, none⟩) x.of.ls.length x.of.ls.length, .int .i64 x.of.ct, .bool x.of.tn.over, .int .i64 x.of.tn.cd, .string x.of.tn.tx, .bool x.of.tn.has, .string x.of.tn.nm, .int .i64 x.of.tn.st]) = F at *
    generalize hXX : wc.heap.size = X at *
    have ZF := Zc.below hbF (by omega)
    have hBF : Below w.heap.size w F := hBc.trans (hbF.mono (by omega))
    have HLF : Hid (LksAt F (some ⟨G2, 0, none⟩) x.of.ls) := lks_below HLC.out (by rw [hXX]; exact hbF)
    have hzwF : w.heap.size < F.heap.size := by omega
    clear ZN FN hXc hbF HLC Zc hGc hXX
    go_wp2_with (refine wpList_load_blk rfl 43 (.tmp 5) rfl X rfl [.int .i64 x.no, .bool x.up, .bool x.has, .int .i64 x.of.kd, .int .i64 x.of.to, .int .i64 x.of.fr, .int .i64 x.of.ep, .int .i64 x.of.ed, .string x.of.km.nm, .string x.of.km.tl, .string x.of.km.ar, .slice (some ⟨G2, 0, none⟩) x.of.ls.length x.of.ls.length, .int .i64 x.of.ct, .bool x.of.tn.over, .int .i64 x.of.tn.cd, .string x.of.tn.tx, .bool x.of.tn.has, .string x.of.tn.nm, .int .i64 x.of.tn.st] _ hxF Tryz.underlying43 rfl (by kernel_rfl) ?_)
    refine (c10 x (some ⟨G2, 0, none⟩) x.of.ls.length F HS.out HLF.out).mono ?_
    rintro e wd ⟨⟨g', rfl, hg'⟩, hbd⟩
    obtain rfl : g = g' := by
      have hh := HG.out.trans hg'.symm
      cases g <;> cases g' <;> simp_all
    have hBd : Below w.heap.size w wd := hBF.trans (hbd.mono hBF.size)
    have hzw : w.heap.size < wd.heap.size := Nat.lt_of_lt_of_le hzwF hbd.size
    have hzX : X < wd.heap.size := Nat.lt_of_lt_of_le hzF hbd.size
    have hza := ZF.below hbd hzwF
    have hzx := hxF.below hbd hzF
    have HLD : Hid (LksAt wd (some ⟨G2, 0, none⟩) x.of.ls) := lks_below HLF.out hbd
    clear hbd hg' HG ZF hxF HLF
    cases g
    · go_wp2_with fail
      refine wp_region_held_drew (S := (fun u => BlkAt u w.heap.size [.int .i64 x.no, .bool x.up, .bool x.has, .int .i64 x.of.kd, .int .i64 x.of.to, .int .i64 x.of.fr, .int .i64 x.of.ep, .int .i64 x.of.ed, .string x.of.km.nm, .string x.of.km.tl, .string x.of.km.ar, .slice ai x.of.ls.length ci, .int .i64 x.of.ct, .bool x.of.tn.over, .int .i64 x.of.tn.cd, .string x.of.tn.tx, .bool x.of.tn.has, .string x.of.tn.nm, .int .i64 x.of.tn.st] ∧ BlkAt u X [.int .i64 x.no, .bool x.up, .bool x.has, .int .i64 x.of.kd, .int .i64 x.of.to, .int .i64 x.of.fr, .int .i64 x.of.ep, .int .i64 x.of.ed, .string x.of.km.nm, .string x.of.km.tl, .string x.of.km.ar, .slice (some ⟨G2, 0, none⟩) x.of.ls.length x.of.ls.length, .int .i64 x.of.ct, .bool x.of.tn.over, .int .i64 x.of.tn.cd, .string x.of.tn.tx, .bool x.of.tn.has, .string x.of.tn.nm, .int .i64 x.of.tn.st])) (by kernel_rfl) ?_ (fun hHeld => ?_)
      · ((try dsimp only); first | exact ⟨hza, hzx⟩ | exact ⟨hza.drew, hzx.drew⟩)
      refine wpAnyH_take (i := 0) (oi := { dst := some 22, op := Op.load 43 (Operand.tmp 5), type := 43, pos := "exact.go:3842", after := #[], guard := none }) (v := .agg #[.int .i64 x.no, .bool x.up, .bool x.has, .int .i64 x.of.kd, .int .i64 x.of.to, .int .i64 x.of.fr, .int .i64 x.of.ep, .int .i64 x.of.ed, .string x.of.km.nm, .string x.of.km.tl, .string x.of.km.ar, .slice (some ⟨G2, 0, none⟩) x.of.ls.length x.of.ls.length, .int .i64 x.of.ct, .bool x.of.tn.over, .int .i64 x.of.tn.cd, .string x.of.tn.tx, .bool x.of.tn.has, .string x.of.tn.nm, .int .i64 x.of.tn.st]) rfl (by kernel_rfl) (by kernel_rfl) (by kernel_rfl) (fun _ _ _ h => h) (Or.inl ⟨by rfl, ?_⟩) (by assumption) ?_
      · intro wq hSw
        have hq := run_loadVar_blk (P := Tryz.prog) wq X 43 [.int .i64 x.no, .bool x.up, .bool x.has, .int .i64 x.of.kd, .int .i64 x.of.to, .int .i64 x.of.fr, .int .i64 x.of.ep, .int .i64 x.of.ed, .string x.of.km.nm, .string x.of.km.tl, .string x.of.km.ar, .slice (some ⟨G2, 0, none⟩) x.of.ls.length x.of.ls.length, .int .i64 x.of.ct, .bool x.of.tn.over, .int .i64 x.of.tn.cd, .string x.of.tn.tx, .bool x.of.tn.has, .string x.of.tn.nm, .int .i64 x.of.tn.st] _ hSw.2 Tryz.underlying43 rfl (by kernel_rfl)
        have hg := load_exec hq
        first
          | exact hg
          | (simp only [execOp, Sem.run_bind, Sem.run_pure]; exact hg)
          | (unfold execOp; simp only [Sem.run_bind, Sem.run_pure]; exact hg)
          | (unfold execOp; trace_state; sorry)
      try simp only [Act.put, List.setIfInBounds_toArray, List.set_cons_zero, List.set_cons_succ]
      refine wpAnyH_take (i := 1) (oi := { dst := some 23, op := Op.load 32 (Operand.tmp 1), type := 32, pos := "exact.go:3842", after := #[], guard := none }) (v := .agg #[.int .i64 x.no, .bool x.up, .bool x.has, .int .i64 x.of.kd, .int .i64 x.of.to, .int .i64 x.of.fr, .int .i64 x.of.ep, .int .i64 x.of.ed, .string x.of.km.nm, .string x.of.km.tl, .string x.of.km.ar, .slice ai x.of.ls.length ci, .int .i64 x.of.ct, .bool x.of.tn.over, .int .i64 x.of.tn.cd, .string x.of.tn.tx, .bool x.of.tn.has, .string x.of.tn.nm, .int .i64 x.of.tn.st]) rfl (by kernel_rfl) (by kernel_rfl) (by kernel_rfl) (fun _ _ _ h => h) (Or.inl ⟨by rfl, ?_⟩) (by assumption) ?_
      · intro wq hSw
        have hq := run_loadVar_blk (P := Tryz.prog) wq w.heap.size 32 [.int .i64 x.no, .bool x.up, .bool x.has, .int .i64 x.of.kd, .int .i64 x.of.to, .int .i64 x.of.fr, .int .i64 x.of.ep, .int .i64 x.of.ed, .string x.of.km.nm, .string x.of.km.tl, .string x.of.km.ar, .slice ai x.of.ls.length ci, .int .i64 x.of.ct, .bool x.of.tn.over, .int .i64 x.of.tn.cd, .string x.of.tn.tx, .bool x.of.tn.has, .string x.of.tn.nm, .int .i64 x.of.tn.st] _ hSw.1 Tryz.underlying32 rfl (by kernel_rfl)
        have hg := load_exec hq
        first
          | exact hg
          | (simp only [execOp, Sem.run_bind, Sem.run_pure]; exact hg)
          | (unfold execOp; simp only [Sem.run_bind, Sem.run_pure]; exact hg)
          | (unfold execOp; trace_state; sorry)
      try simp only [Act.put, List.setIfInBounds_toArray, List.set_cons_zero, List.set_cons_succ]
      refine wpAnyH_ready (rs := [2]) (by kernel_rfl) (by simp) ?_
      refine AllReadyH.cons (o := { dst := some 24, op := Op.call { callee := Callee.value (Operand.func 9), args := #[Operand.tmp 23], argTypes := #[32] }, type := 43, pos := "exact.go:3842", after := #[{ on := 1, ground := Ground.data }], guard := none }) rfl (fun K hK => ?_) AllReadyH.nil
      go_simp
      refine (c9 x ai ci _ hl' (lks_below HA.out hBd.drew)).mono ?_
      rintro e we ⟨⟨G3, hG3, rfl, hLG3⟩, hbe⟩
      have HBE : Hid (Below wd.heap.size wd we) := ((Below.refl _ _).drew).trans hbe
      have hza := hza.below HBE.out hzw
      have hzx := hzx.below HBE.out hzX
      have HLE : Hid (LksAt we (some ⟨G3, 0, none⟩) x.of.ls) := hLG3
      have hBe : Below w.heap.size w we := hBd.trans (HBE.out.mono hBd.size)
      have hze : w.heap.size < we.heap.size := Nat.lt_of_lt_of_le hzw HBE.out.size
      have hzXe : X < we.heap.size := Nat.lt_of_lt_of_le hzX HBE.out.size
      clear hLG3 hbe
      go_wp2_with fail
      clear hHeld
      refine hK.out _ _ ?_ (fun hHeld => ?_)
      · ((try dsimp only); first | exact ⟨hza, hzx⟩ | exact ⟨hza.drew, hzx.drew⟩)
      clear hK K
      try simp only [Act.put, List.setIfInBounds_toArray, List.set_cons_zero, List.set_cons_succ]
      refine wpAnyH_ready (rs := [3]) (by kernel_rfl) (by simp) ?_
      refine AllReadyH.cons (o := { dst := some 25, op := Op.call { callee := Callee.value (Operand.func 11), args := #[Operand.tmp 22, Operand.tmp 24], argTypes := #[43, 43] }, type := 4, pos := "exact.go:3842", after := #[{ on := 0, ground := Ground.data }, { on := 2, ground := Ground.data }, { on := 2, ground := Ground.chain }], guard := none }) rfl (fun K hK => ?_) AllReadyH.nil
      go_simp
      refine (c11 x (some ⟨G2, 0, none⟩) (some ⟨G3, 0, none⟩) x.of.ls.length x.of.ls.length we hl' (lks_below HLD.out HBE.out) HLE.out).mono ?_
      rintro e wf ⟨rfl, hbf⟩
      have hBf : Below w.heap.size w wf := hBe.trans (hbf.mono hBe.size)
      have hza := hza.below hbf hze
      have hzx := hzx.below hbf hzXe
      go_wp2_with fail
      clear hHeld
      refine hK.out _ _ ?_ (fun hHeld => ?_)
      · ((try dsimp only); first | exact ⟨hza, hzx⟩ | exact ⟨hza.drew, hzx.drew⟩)
      clear hK K
      try simp only [Act.put, List.setIfInBounds_toArray, List.set_cons_zero, List.set_cons_succ]
      refine wpAnyH_take (i := 4) (oi := { dst := some 26, op := Op.unOp UnOp.not 4 (Operand.tmp 25), type := 4, pos := "exact.go:3842", after := #[{ on := 3, ground := Ground.data }], guard := none }) (v := ?_) rfl (by kernel_rfl) (by kernel_rfl) (by kernel_rfl) (fun _ _ _ h => h) (Or.inl ⟨by rfl, ?_⟩) (by assumption) ?_
      rotate_left
      · intro wq hSw
        (try dsimp only at hSw)
        go_simp
        try with_reducible rfl
      try simp only [Act.put, List.setIfInBounds_toArray, List.set_cons_zero, List.set_cons_succ]
      refine wpAnyH_done (by kernel_rfl) ?_ _
      clear hHeld
      go_wp2
      go_ret
      exact ⟨rfl, hBf⟩
    · go_wp2_with fail
      refine wp_region_held_drew (S := (fun u => BlkAt u w.heap.size [.int .i64 x.no, .bool x.up, .bool x.has, .int .i64 x.of.kd, .int .i64 x.of.to, .int .i64 x.of.fr, .int .i64 x.of.ep, .int .i64 x.of.ed, .string x.of.km.nm, .string x.of.km.tl, .string x.of.km.ar, .slice ai x.of.ls.length ci, .int .i64 x.of.ct, .bool x.of.tn.over, .int .i64 x.of.tn.cd, .string x.of.tn.tx, .bool x.of.tn.has, .string x.of.tn.nm, .int .i64 x.of.tn.st] ∧ BlkAt u X [.int .i64 x.no, .bool x.up, .bool x.has, .int .i64 x.of.kd, .int .i64 x.of.to, .int .i64 x.of.fr, .int .i64 x.of.ep, .int .i64 x.of.ed, .string x.of.km.nm, .string x.of.km.tl, .string x.of.km.ar, .slice (some ⟨G2, 0, none⟩) x.of.ls.length x.of.ls.length, .int .i64 x.of.ct, .bool x.of.tn.over, .int .i64 x.of.tn.cd, .string x.of.tn.tx, .bool x.of.tn.has, .string x.of.tn.nm, .int .i64 x.of.tn.st])) (by kernel_rfl) ?_ (fun hHeld => ?_)
      · ((try dsimp only); first | exact ⟨hza, hzx⟩ | exact ⟨hza.drew, hzx.drew⟩)
      refine wpAnyH_take (i := 0) (oi := { dst := some 22, op := Op.load 43 (Operand.tmp 5), type := 43, pos := "exact.go:3842", after := #[], guard := none }) (v := .agg #[.int .i64 x.no, .bool x.up, .bool x.has, .int .i64 x.of.kd, .int .i64 x.of.to, .int .i64 x.of.fr, .int .i64 x.of.ep, .int .i64 x.of.ed, .string x.of.km.nm, .string x.of.km.tl, .string x.of.km.ar, .slice (some ⟨G2, 0, none⟩) x.of.ls.length x.of.ls.length, .int .i64 x.of.ct, .bool x.of.tn.over, .int .i64 x.of.tn.cd, .string x.of.tn.tx, .bool x.of.tn.has, .string x.of.tn.nm, .int .i64 x.of.tn.st]) rfl (by kernel_rfl) (by kernel_rfl) (by kernel_rfl) (fun _ _ _ h => h) (Or.inl ⟨by rfl, ?_⟩) (by assumption) ?_
      · intro wq hSw
        have hq := run_loadVar_blk (P := Tryz.prog) wq X 43 [.int .i64 x.no, .bool x.up, .bool x.has, .int .i64 x.of.kd, .int .i64 x.of.to, .int .i64 x.of.fr, .int .i64 x.of.ep, .int .i64 x.of.ed, .string x.of.km.nm, .string x.of.km.tl, .string x.of.km.ar, .slice (some ⟨G2, 0, none⟩) x.of.ls.length x.of.ls.length, .int .i64 x.of.ct, .bool x.of.tn.over, .int .i64 x.of.tn.cd, .string x.of.tn.tx, .bool x.of.tn.has, .string x.of.tn.nm, .int .i64 x.of.tn.st] _ hSw.2 Tryz.underlying43 rfl (by kernel_rfl)
        have hg := load_exec hq
        first
          | exact hg
          | (simp only [execOp, Sem.run_bind, Sem.run_pure]; exact hg)
          | (unfold execOp; simp only [Sem.run_bind, Sem.run_pure]; exact hg)
          | (unfold execOp; trace_state; sorry)
      try simp only [Act.put, List.setIfInBounds_toArray, List.set_cons_zero, List.set_cons_succ]
      refine wpAnyH_take (i := 1) (oi := { dst := some 23, op := Op.load 32 (Operand.tmp 1), type := 32, pos := "exact.go:3842", after := #[], guard := none }) (v := .agg #[.int .i64 x.no, .bool x.up, .bool x.has, .int .i64 x.of.kd, .int .i64 x.of.to, .int .i64 x.of.fr, .int .i64 x.of.ep, .int .i64 x.of.ed, .string x.of.km.nm, .string x.of.km.tl, .string x.of.km.ar, .slice ai x.of.ls.length ci, .int .i64 x.of.ct, .bool x.of.tn.over, .int .i64 x.of.tn.cd, .string x.of.tn.tx, .bool x.of.tn.has, .string x.of.tn.nm, .int .i64 x.of.tn.st]) rfl (by kernel_rfl) (by kernel_rfl) (by kernel_rfl) (fun _ _ _ h => h) (Or.inl ⟨by rfl, ?_⟩) (by assumption) ?_
      · intro wq hSw
        have hq := run_loadVar_blk (P := Tryz.prog) wq w.heap.size 32 [.int .i64 x.no, .bool x.up, .bool x.has, .int .i64 x.of.kd, .int .i64 x.of.to, .int .i64 x.of.fr, .int .i64 x.of.ep, .int .i64 x.of.ed, .string x.of.km.nm, .string x.of.km.tl, .string x.of.km.ar, .slice ai x.of.ls.length ci, .int .i64 x.of.ct, .bool x.of.tn.over, .int .i64 x.of.tn.cd, .string x.of.tn.tx, .bool x.of.tn.has, .string x.of.tn.nm, .int .i64 x.of.tn.st] _ hSw.1 Tryz.underlying32 rfl (by kernel_rfl)
        have hg := load_exec hq
        first
          | exact hg
          | (simp only [execOp, Sem.run_bind, Sem.run_pure]; exact hg)
          | (unfold execOp; simp only [Sem.run_bind, Sem.run_pure]; exact hg)
          | (unfold execOp; trace_state; sorry)
      try simp only [Act.put, List.setIfInBounds_toArray, List.set_cons_zero, List.set_cons_succ]
      refine wpAnyH_ready (rs := [2]) (by kernel_rfl) (by simp) ?_
      refine AllReadyH.cons (o := { dst := some 24, op := Op.call { callee := Callee.value (Operand.func 9), args := #[Operand.tmp 23], argTypes := #[32] }, type := 43, pos := "exact.go:3842", after := #[{ on := 1, ground := Ground.data }], guard := none }) rfl (fun K hK => ?_) AllReadyH.nil
      go_simp
      refine (c9 x ai ci _ hl' (lks_below HA.out hBd.drew)).mono ?_
      rintro e we ⟨⟨G3, hG3, rfl, hLG3⟩, hbe⟩
      have HBE : Hid (Below wd.heap.size wd we) := ((Below.refl _ _).drew).trans hbe
      have hza := hza.below HBE.out hzw
      have hzx := hzx.below HBE.out hzX
      have HLE : Hid (LksAt we (some ⟨G3, 0, none⟩) x.of.ls) := hLG3
      have hBe : Below w.heap.size w we := hBd.trans (HBE.out.mono hBd.size)
      have hze : w.heap.size < we.heap.size := Nat.lt_of_lt_of_le hzw HBE.out.size
      have hzXe : X < we.heap.size := Nat.lt_of_lt_of_le hzX HBE.out.size
      clear hLG3 hbe
      go_wp2_with fail
      clear hHeld
      refine hK.out _ _ ?_ (fun hHeld => ?_)
      · ((try dsimp only); first | exact ⟨hza, hzx⟩ | exact ⟨hza.drew, hzx.drew⟩)
      clear hK K
      try simp only [Act.put, List.setIfInBounds_toArray, List.set_cons_zero, List.set_cons_succ]
      refine wpAnyH_ready (rs := [3]) (by kernel_rfl) (by simp) ?_
      refine AllReadyH.cons (o := { dst := some 25, op := Op.call { callee := Callee.value (Operand.func 11), args := #[Operand.tmp 22, Operand.tmp 24], argTypes := #[43, 43] }, type := 4, pos := "exact.go:3842", after := #[{ on := 0, ground := Ground.data }, { on := 2, ground := Ground.data }, { on := 2, ground := Ground.chain }], guard := none }) rfl (fun K hK => ?_) AllReadyH.nil
      go_simp
      refine (c11 x (some ⟨G2, 0, none⟩) (some ⟨G3, 0, none⟩) x.of.ls.length x.of.ls.length we hl' (lks_below HLD.out HBE.out) HLE.out).mono ?_
      rintro e wf ⟨rfl, hbf⟩
      have hBf : Below w.heap.size w wf := hBe.trans (hbf.mono hBe.size)
      have hza := hza.below hbf hze
      have hzx := hzx.below hbf hzXe
      go_wp2_with fail
      clear hHeld
      refine hK.out _ _ ?_ (fun hHeld => ?_)
      · ((try dsimp only); first | exact ⟨hza, hzx⟩ | exact ⟨hza.drew, hzx.drew⟩)
      clear hK K
      try simp only [Act.put, List.setIfInBounds_toArray, List.set_cons_zero, List.set_cons_succ]
      refine wpAnyH_take (i := 4) (oi := { dst := some 26, op := Op.unOp UnOp.not 4 (Operand.tmp 25), type := 4, pos := "exact.go:3842", after := #[{ on := 3, ground := Ground.data }], guard := none }) (v := ?_) rfl (by kernel_rfl) (by kernel_rfl) (by kernel_rfl) (fun _ _ _ h => h) (Or.inl ⟨by rfl, ?_⟩) (by assumption) ?_
      rotate_left
      · intro wq hSw
        (try dsimp only at hSw)
        go_simp
        try with_reducible rfl
      try simp only [Act.put, List.setIfInBounds_toArray, List.set_cons_zero, List.set_cons_succ]
      refine wpAnyH_done (by kernel_rfl) ?_ _
      clear hHeld
      go_wp2
      go_ret
      exact ⟨rfl, hBf⟩
  · clear hr
    go_wp2
    go_ret
    exact ⟨rfl, hB1⟩
end Go.Proofs.YtdcgjdgpiogdaaaGreatDoor
