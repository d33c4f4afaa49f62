import Derived.Test.YtkhlekmicpmpkaaGreatDoorM2
import Derived.Maps.RangeWalk
import Derived.Laws.IdiomRangeMap
namespace Go.Proofs.YtkhlekmicpmpkaaGreatDoor
open Go.RowKit Go.Maps
open Go.WideElems (Fit rd rg pl rd_val rd_key)
set_option maxRecDepth 100000
set_option linter.unusedVariables false
def mk3 (p : ByteArray × Int × ByteArray) : Value := .agg #[.string p.1, .int .i64 p.2.1, .string p.2.2]
open Classical in
noncomputable def hRd (v : Value) : Option (DataW Value × List MemPlace) := if ∃ p, v = mk3 p then some (.held v, []) else none
theorem hRd_inv {v : Value} {y : DataW Value × List MemPlace} (h : hRd v = some y) : (∃ p, v = mk3 p) ∧ y = (.held v, []) := by
 unfold hRd at h
 split at h
 · rename_i hp
   exact ⟨hp, (Option.some.inj h).symm⟩
 · cases h
theorem own_hold {w : World} {b n : Nat} {f : List (ByteArray × Value)} (h : w.ownsMap Tryz.prog 9 tokR b n (mapD f)) (hf : ∀ p ∈ f, ∃ q, p.2 = mk3 q) : w.ownsMap Tryz.prog 9 hRd b n (mapD f) := by
 obtain ⟨es, clock, hb, F, hs, hD⟩ := h
 have hst : ∀ x ∈ es.toList, ∀ z, tokR x.val = some z → hRd x.val = some z := fun x hx z hz => by
  obtain ⟨y, hy⟩ := F.reads x hx
  have hm : rg Tryz.prog 9 tokR x ∈ (es.toList.map (rg Tryz.prog 9 tokR)).foldr DataW.insert [] := mem_sorted.2 (List.mem_map_of_mem hx)
  have hD' : f.map eS = (es.toList.map (rg Tryz.prog 9 tokR)).foldr DataW.insert [] := by
   have := hD
   unfold mapD at this
   exact DataW.map.inj this
  rw [← hD'] at hm
  obtain ⟨p, hp, e⟩ := List.mem_map.1 hm
  have e2 : rg Tryz.prog 9 tokR x = y := by unfold rg; rw [hy]; rfl
  obtain ⟨z', hz', hy2⟩ := rd_val hy
  have hz'' : z' = (.held x.val, []) := by unfold tokR at hz'; exact (Option.some.inj hz').symm
  have e3 : DataW.held p.2 = DataW.held x.val := by
   have := congrArg Prod.snd (e.trans e2)
   rw [hy2, hz''] at this
   exact this
  have e4 : p.2 = x.val := by injection e3
  obtain ⟨q, hq⟩ := hf p hp
  unfold tokR at hz
  unfold hRd
  rw [if_pos ⟨q, e4 ▸ hq⟩]
  exact hz
 have h1 := World.ownsMap_of_fit (R := hRd) hb F hst
 rw [← hD] at h1
 exact h1.mono hs
set_option maxHeartbeats 4000000 in
theorem c66 (bd bs nd ns : Nat) (Dd : DataW Value) (f : List (ByteArray × Value)) (w : World) (hd : w.ownsMap Tryz.prog 9 tokR bd nd Dd) (hs0 : w.ownsMap Tryz.prog 9 tokR bs ns (mapD f)) (hf : ∀ p ∈ f, ∃ q, p.2 = mk3 q) (hne : bd ≠ bs) (hroom : nd + Maps.size (mapD f) ≤ maxLen) :
 Calls Tryz.prog 66 #[.map (some bd), .map (some bs)] w fun e w' => e = .returned (.tuple #[]) ∧ w'.ownsMap Tryz.prog 9 tokR bd (nd + Maps.size (mapD f)) (Lib.mergeD Dd (mapD f)) ∧ w.grownBy w' (some bd) := by
 have hs := own_hold hs0 hf
 generalize mapD f = Ds at *
 have hbd := hd.lt
 have hbs := hs.lt
 go_enter Tryz.func66, Tryz.ntmps66
 go_wp2_with (first
  | (at_range; refine wpList_range_own _ rfl _ 101 rfl 9 107 lawS Tryz.underlying101 hRd bs ns _ rfl hs ?_; intro w0 hrg0 hg0 hs0)
  | go_in)
 go_frame
 go_loopw [8] (fun _ wr => ∃ (left : Lit → Bool) (cnt : Nat) (Dout : DataW Value), wr.ranges Tryz.prog 9 hRd bs w.heap.size ns Ds left cnt ∧ cnt ≤ Maps.size Ds ∧
  wr.ownsMap Tryz.prog 9 tokR bd (nd + (Maps.size Ds - cnt)) Dout ∧ Merged Dout Dd Ds left ∧ w.grownBy wr (some bd))
  (fun _ wr => wr.rangeLeft bs w.heap.size)
 case atStart =>
  exact ⟨_, _, Dd, hrg0, Nat.le_refl _, (hd.kept hg0 (by simp)).mono (by omega), merged_start Dd Ds, hg0.but _⟩
 case round =>
  obtain ⟨left, cnt, Dout, hrg, hcs, hout, hM, hgw⟩ := hrel
  go_wp2_with (first
   | (at_next; refine wpList_next_ranges _ rfl _ rfl 9 lawS hRd id mk3 (fun key _ _ => ⟨key, rfl⟩) (fun v _ h => (hRd_inv h).1) bs w.heap.size ns _ _ _ rfl hrg ?_ ?_)
   | go_in)
  · intro hc0 hl0
    go_wp2
    go_end0
    subst hc0
    have e := merged_eq lawS.one hM hl0 (hout.canon lawS) (hd.canonK lawS) (hs.canonK lawS)
    subst e
    exact ⟨rfl, by simpa using hout, hgw⟩
  · intro x ca cc cb kl yd yp w1 cnt1 hkey hlx hv hat hrg1 hlt hg1 hs1 hen
    have hy := (hRd_inv hv).2
    have hout1 := hout.kept hg1 (fun e => by have := Option.some.inj e; omega)
    have hg2 := World.grownBy_alloc w1 (.cells #[.string ca, .int .i64 cc, .string cb] 107) none
    have hout2 := hidI (hout1.alloc (.cells #[.string ca, .int .i64 cc, .string cb] 107))
    have hrg2 := hidI (hrg1.kept hg2 (by simp) (by simp))
    have hv2 : Hid (tokR (.agg #[.string ca, .int .i64 cc, .string cb]) = some (yd, [])) := by show tokR _ = _; rw [show yd = _ from congrArg Prod.fst hy]; rfl
    simp only [mk3] at hen hkey ⊢
    clear hy hv
    go_wp2_with (first
     | (at_mapUpdate; refine wpList_mapUpdate_own _ rfl _ _ _ 101 rfl 9 107 lawS Tryz.underlying101 tokR bd _ _ rfl hout2.out (by omega) _ _ _ rfl rfl hkey yd [] hv2.out ?_; intro w2 hout3 hg3; go_frame)
     | go_in)
    have hrg3 := hrg2.out.kept hg3 (fun e => hne (Option.some.inj e).symm) (fun e => by have := Option.some.inj e; omega)
    go_roundw
    case rel =>
     exact ⟨_, cnt1, _, hrg3, by omega, hout3.mono (by omega), merged_step hM hout.isMap (lawS.key hkey) hat, ((hgw.andThen hg1 (fun j hj => .inl (by cases hj; exact Nat.le_refl _))).andThen hg2 (fun j hj => by cases hj)).andThen hg3 (fun j hj => .inr hj)⟩
    case measure => rw [hrg3.left_eq, hrg.left_eq]; exact hlt
end Go.Proofs.YtkhlekmicpmpkaaGreatDoor
