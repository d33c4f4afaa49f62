import Derived.Test.YtejlfpolnddfdaaDoorR4
import Derived.Test.YtejlfpolnddfdaaDoorX5
namespace Go.Proofs.YtejlfpolnddfdaaDoor
open Go.RowKit
/-- A new block below others. -/
theorem blk_keep {w u : World} {vs : List Value} {t : TypeId} (hb : Below (w.heap.size + 1) (w.alloc (.cells vs.toArray t)) u) : BlkAt u w.heap.size vs ∧ OpnAt u w.heap.size :=
  ⟨(blk_new w vs t).below hb (by omega), (opn_new w _ t).below hb (by omega)⟩
section
variable {P : Program}
theorem results_blk2 {fn : Func} {p q : Tmp} {ty : TypeId} (h : fn.results = #[.cell p ty, .tmp q]) (tmps : Array Value) (w : World) (B : Nat) (cs : List Value) (v : Value) (d : TypeDesc)
    (hp : tmps.getD p undef = .pointer (some ⟨B, 0, none⟩)) (hq : tmps.getD q undef = v) (hc : BlkAt w B cs)
    (hu : P.underlying ty = some d) (hd : (match d with | .struct _ | .array _ _ => true | _ => false) = true) (hi : (P.info? ty).map (·.size) = some cs.length) :
    (results fn tmps).run P w = .ok (.tuple #[.agg cs.toArray, v]) w := by
  have hp' : tmps[p]?.getD undef = .pointer (some ⟨B, 0, none⟩) := by simpa using hp
  have hq' : tmps[q]?.getD undef = v := by simpa using hq
  simp [results, h, hp', hq', asAddr, run_loadVar_blk w B ty cs d hc hu hd hi]
end
def L4.v (x : L4) : Value := .agg #[.bool x.has, .string x.nm, .int .i64 x.cd, .string x.tx]
/-- A look read: what it is. -/
def Is126 (l : List UInt8) (e : Ending) : Prop := ∃ (x : L4) (ok : Bool), e = .returned (.tuple #[x.v, .bool ok]) ∧ RdLook l x ok ∧ x.le 1048576
set_option maxHeartbeats 4000000 in
set_option maxRecDepth 100000 in
theorem c65 (l : List UInt8) (w : World) (hs : l.length ≤ 16000) (hmx : MaxAt w) :
    Calls Tryd.prog 65 #[.string (ofL l)] w fun e w' => Is126 l e ∧ Below w.heap.size w w' := by
  have hB0 : Below w.heap.size w (w.alloc (.cells #[.bool false, .string ⟨#[]⟩, .int .i64 0, .string ⟨#[]⟩] 43)) := (Below.refl _ _).alloc (Nat.le_refl _) _
  have hr := rest_small l
  have hr2 := rest_small (restOf l)
  go_enter Tryd.func65, Tryd.ntmps65
  go_wp2_with fail
  refine (c43w l _ (by omega) (max_below hmx hB0)).mono ?_
  rintro e w1 ⟨⟨y, rfl⟩, hb1⟩
  have hx1 : Below (w.heap.size + 1) (w.alloc (.cells #[.bool false, .string ⟨#[]⟩, .int .i64 0, .string ⟨#[]⟩] 43)) w1 := by simpa using hb1
  clear hb1
  have hm1 : MaxAt w1 := max_below hmx (hB0.trans (hx1.mono (by omega)))
  go_wp2_with fail
  refine (c43w (restOf l) _ (by omega) hm1).mono ?_
  rintro e w2 ⟨⟨y', rfl⟩, hb2⟩
  have hx2 := hx1.trans (hb2.mono (by have h := hx1.size; simp at h; omega))
  have hm2 : MaxAt w2 := max_below hmx (hB0.trans (hx2.mono (by omega)))
  clear hb2
  go_wp2_with fail
  refine (c76 l _).mono ?_
  rintro e w3 ⟨rfl, hb3⟩
  have hx3 := hx2.trans (hb3.mono (by have h := hx2.size; simp at h; omega))
  have hm3 : MaxAt w3 := max_below hmx (hB0.trans (hx3.mono (by omega)))
  clear hb3
  go_wp2_with fail
  refine (c53 (restOf (restOf l)) _ (by omega) hm3).mono ?_
  rintro e w4 ⟨⟨c, t, ok, rfl, hrr, hts⟩, hb4⟩
  have hx4 := hx3.trans (hb4.mono (by have h := hx3.size; simp at h; omega))
  clear hb4
  have hB4 : Below w.heap.size w w4 := hB0.trans (hx4.mono (by omega))
  have hno : (isW l = false ∨ ok = false) → Hid (Is126 l (.returned (.tuple #[.agg #[.bool false, .string ⟨#[]⟩, .int .i64 0, .string ⟨#[]⟩], .bool false]))) := fun h => ⟨l4z, false, rfl, rdLook_no hrr h _, by decide, by decide⟩
  have hyes : isW l = true → ok = true → Hid (Is126 l (.returned (.tuple #[.agg #[.bool (hasW l), .string (ofL (wordOf (restOf l))), .int .i64 c, .string t], .bool true]))) := by
    intro h1 h2
    subst h2
    exact ⟨⟨hasW l, ofL (wordOf (restOf l)), c, t⟩, true, rfl, rdLook_yes h1 hrr, by show (ofL (wordOf (restOf l))).size ≤ 1048576; rw [ofL_size]; omega, hts⟩
  clear hrr
  obtain ⟨bA, oA⟩ := blk_keep (vs := [.bool false, .string ⟨#[]⟩, .int .i64 0, .string ⟨#[]⟩]) hx4
  have hz4 : w.heap.size < w4.heap.size := by have h := hx4.size; simp at h; omega
  have hA := fun o => bA.below ((Below.refl w4.heap.size w4).alloc (Nat.le_refl _) o) hz4
  have hO := fun o => oA.below ((Below.refl w4.heap.size w4).alloc (Nat.le_refl _) o) hz4
  have z0 := fun o => hA o 0 _ rfl
  have z1 := fun o => hA o 1 _ rfl
  have z2 := fun o => hA o 2 _ rfl
  have z3 := fun o => hA o 3 _ rfl
  have y0 := fun o => hO o 0
  have y1 := fun o => hO o 1
  have y2 := fun o => hO o 2
  have y3 := fun o => hO o 3
  have x0 := bA 0 _ rfl
  have x1 := bA 1 _ rfl
  have x2 := bA 2 _ rfl
  have x3 := bA 3 _ rfl
  have f0 := oA 0
  have f1 := oA 1
  have f2 := oA 2
  have f3 := oA 3
  cases hn : isW l
  · have HI := hno (.inl hn)
    clear hno hyes
    go_wp2
    have FF := BlkAt.fill (B := w.heap.size) [.bool false, .string ⟨#[]⟩, .int .i64 0, .string ⟨#[]⟩] [] [.bool false, .string ⟨#[]⟩, .int .i64 0, .string ⟨#[]⟩] [] 0 bA rfl rfl
    have GG : Below w.heap.size w (fill w4 w.heap.size 0 [.bool false, .string ⟨#[]⟩, .int .i64 0, .string ⟨#[]⟩]) := below_fill (Nat.le_refl _) _ 0 hB4
    have GZ : w.heap.size ≤ (fill w4 w.heap.size 0 [.bool false, .string ⟨#[]⟩, .int .i64 0, .string ⟨#[]⟩]).heap.size := GG.size
    refine bodyPost_ret (v := .tuple #[.agg #[.bool false, .string ⟨#[]⟩, .int .i64 0, .string ⟨#[]⟩], .bool false]) (by exact results_blk2 Tryd.results65 _ _ w.heap.size _ _ _ rfl rfl (FF.below ((Below.refl _ _).alloc (Nat.le_refl _) _) (by rw [size_fill]; exact hz4)) Tryd.underlying43 rfl (by kernel_rfl)) rfl ⟨HI.out, by exact GG.alloc GZ _⟩
  · cases ok
    · have HI := hno (.inr rfl)
      clear hno hyes
      go_wp2
      have FF := BlkAt.fill (B := w.heap.size) [.bool false, .string ⟨#[]⟩, .int .i64 0, .string ⟨#[]⟩] [] [.bool false, .string ⟨#[]⟩, .int .i64 0, .string ⟨#[]⟩] [] 0 bA rfl rfl
      have GG : Below w.heap.size w (fill w4 w.heap.size 0 [.bool false, .string ⟨#[]⟩, .int .i64 0, .string ⟨#[]⟩]) := below_fill (Nat.le_refl _) _ 0 hB4
      have GZ : w.heap.size ≤ (fill w4 w.heap.size 0 [.bool false, .string ⟨#[]⟩, .int .i64 0, .string ⟨#[]⟩]).heap.size := GG.size
      refine bodyPost_ret (v := .tuple #[.agg #[.bool false, .string ⟨#[]⟩, .int .i64 0, .string ⟨#[]⟩], .bool false]) (by exact results_blk2 Tryd.results65 _ _ w.heap.size _ _ _ rfl rfl (FF.below ((Below.refl _ _).alloc (Nat.le_refl _) _) (by rw [size_fill]; exact hz4)) Tryd.underlying43 rfl (by kernel_rfl)) rfl ⟨HI.out, by exact GG.alloc GZ _⟩
    · have HI := hyes hn rfl
      clear hno hyes
      go_wp2
      have FF := BlkAt.fill (B := w.heap.size) [.bool (hasW l), .string (ofL (wordOf (restOf l))), .int .i64 c, .string t] [] [.bool false, .string ⟨#[]⟩, .int .i64 0, .string ⟨#[]⟩] [] 0 bA rfl rfl
      have GG : Below w.heap.size w (fill w4 w.heap.size 0 [.bool (hasW l), .string (ofL (wordOf (restOf l))), .int .i64 c, .string t]) := below_fill (Nat.le_refl _) _ 0 hB4
      have GZ : w.heap.size ≤ (fill w4 w.heap.size 0 [.bool (hasW l), .string (ofL (wordOf (restOf l))), .int .i64 c, .string t]).heap.size := GG.size
      refine bodyPost_ret (v := .tuple #[.agg #[.bool (hasW l), .string (ofL (wordOf (restOf l))), .int .i64 c, .string t], .bool true]) (by exact results_blk2 Tryd.results65 _ _ w.heap.size _ _ _ rfl rfl (FF.below ((Below.refl _ _).alloc (Nat.le_refl _) _) (by rw [size_fill]; exact hz4)) Tryd.underlying43 rfl (by kernel_rfl)) rfl ⟨HI.out, by exact GG.alloc GZ _⟩
end Go.Proofs.YtejlfpolnddfdaaDoor
