import Derived.Test.YtdcgjdgpiogdaaaGreatDoorYS
import Derived.Test.YtdcgjdgpiogdaaaGreatDoorYF
namespace Go.Proofs.YtdcgjdgpiogdaaaGreatDoor
open Go.RowKit
/-- A message's lines. -/
def msgL (x : G16) : List UInt8 := if x.kd = 1 then offerL x else if x.kd = 2 then turnL x else hereL x
def Fm (x : G16) (key : ByteArray) : Prop := MsgOk x ∧ key.size ≤ 30
def fmL (x : G16) (key : ByteArray) : List UInt8 := (tagS (ofL (msgL x)) key).data.toList ++ msgL x
theorem isT_iff {P Q : Prop} {l m : List UInt8} {e : Ending} (h : IsT P l e) (hp : P ↔ Q) (hl : P → l = m) : IsT Q m e := by
  obtain ⟨s, he, ⟨h, hs⟩ | ⟨h, hs⟩⟩ := h
  · exact ⟨s, he, .inl ⟨hp.1 h, by rw [hs, hl h]⟩⟩
  · exact ⟨s, he, .inr ⟨fun k => h (hp.2 k), hs⟩⟩
theorem c27m (x : G16) (ai : Option Addr) (ci : Nat) (w : World) (hs : x.le 1048576) (hat : LksAt w ai x.ls) :
    Calls Tryz.prog 27 #[.agg #[.int .i64 x.kd, .int .i64 x.to, .int .i64 x.fr, .int .i64 x.ep, .int .i64 x.ed, .string x.km.nm, .string x.km.tl, .string x.km.ar, .slice ai x.ls.length ci, .int .i64 x.ct, .bool x.tn.over, .int .i64 x.tn.cd, .string x.tn.tx, .bool x.tn.has, .string x.tn.nm, .int .i64 x.tn.st]] w fun e w' => IsT (MsgOk x) (msgL x) e ∧ Below w.heap.size w w' := by
  obtain ⟨kd, to, fr, ep, ed, km, ls, ct, tn⟩ := x
  by_cases h1 : kd = 1
  · subst h1
    refine (c27 ⟨1, to, fr, ep, ed, km, ls, ct, tn⟩ ai ci w hs hat).mono fun e w' ⟨hr, hb⟩ => ⟨isT_iff (P := OfferOk ⟨1, to, fr, ep, ed, km, ls, ct, tn⟩) (l := offerL ⟨1, to, fr, ep, ed, km, ls, ct, tn⟩) hr ⟨fun h => .inl ⟨rfl, h⟩, fun h => ?_⟩ (fun _ => rfl), hb⟩
    rcases h with ⟨_, h⟩ | ⟨h, _⟩ | ⟨h, _⟩
    · exact h
    · cases h
    · cases h
  · by_cases h2 : kd = 2
    · subst h2
      refine (c27_2 ⟨2, to, fr, ep, ed, km, ls, ct, tn⟩ ai ci w hs).mono fun e w' ⟨hr, hb⟩ => ⟨isT_iff hr ⟨fun h => .inr (.inl ⟨rfl, h⟩), fun h => ?_⟩ (fun _ => rfl), hb⟩
      rcases h with ⟨h, _⟩ | ⟨_, h⟩ | ⟨h, _⟩
      · cases h
      · exact h
      · cases h
    · by_cases h3 : kd = 3
      · subst h3
        refine (c27_3 ⟨3, to, fr, ep, ed, km, ls, ct, tn⟩ ai ci w hs).mono fun e w' ⟨hr, hb⟩ => ⟨isT_iff hr ⟨fun h => .inr (.inr ⟨rfl, h⟩), fun h => ?_⟩ (fun _ => rfl), hb⟩
        rcases h with ⟨h, _⟩ | ⟨h, _⟩ | ⟨_, h⟩
        · cases h
        · cases h
        · exact h
      · have hno : ¬ MsgOk ⟨kd, to, fr, ep, ed, km, ls, ct, tn⟩ := by
          rintro (⟨h, _⟩ | ⟨h, _⟩ | ⟨h, _⟩)
          · exact h1 h
          · exact h2 h
          · exact h3 h
        exact (c27_no ⟨kd, to, fr, ep, ed, km, ls, ct, tn⟩ ai ci w h1 h2 h3).mono fun e w' ⟨he, hb⟩ => ⟨he ▸ isT_no hno, hb⟩
theorem turn_len {x : G16} (h : TurnOkM x) : (turnL x).length ≤ 15000 ∧ 1 ≤ (turnL x).length := by
  obtain ⟨_, q1, q2, q3, q4, q5, q6⟩ := h
  have m := mom_le q2
  have a := dec_small x.fr (by omega) (by omega)
  have b := dec_small x.ep (by omega) (by omega)
  have c := dec_small x.ed (by omega) (by omega)
  have d := dec_small x.ct (by omega) (by omega)
  have e := dec_small x.tn.st (by omega) (by omega)
  have n := name_len q3
  have l3 := lookW_size x.tn.has
  have l3' : (lookW x.tn.has).data.toList.length = 3 := by rw [← l3]; simp
  unfold turnL turnW firstL num3 num2
  rcases q6 with ⟨ho, hv, _, _⟩ | ⟨ho, _, _, hn⟩
  · rw [if_pos ho]
    have r := res_len (vr_code hv).1 (vr_code hv).2 (vr_len hv)
    simp only [List.length_append, List.length_cons, List.length_nil]
    omega
  · rw [if_neg (by rw [ho]; decide)]
    have n2 := name_len hn
    simp only [List.length_append, List.length_cons, List.length_nil]
    omega
theorem here_len {x : G16} (h : HereOk x) : (hereL x).length ≤ 15000 ∧ 1 ≤ (hereL x).length := by
  have a := dec_small x.fr (by have := h.2; omega) (by have := h.2; omega)
  unfold hereL hereW
  simp only [List.length_append, List.length_cons, List.length_nil]
  omega
theorem msg_len {x : G16} (h : MsgOk x) : (msgL x).length ≤ 15000 ∧ 1 ≤ (msgL x).length := by
  unfold msgL
  rcases h with ⟨k, h⟩ | ⟨k, h⟩ | ⟨k, h⟩
  · rw [if_pos k]
    refine ⟨offer_len h, ?_⟩
    unfold offerL
    simp only [List.length_append, List.length_cons, List.length_nil]
    omega
  · rw [if_neg (by omega), if_pos k]; exact turn_len h
  · rw [if_neg (by omega), if_neg (by omega)]; exact here_len h
theorem tag_size (b k : ByteArray) (hk : k.size ≤ 30) : (tagS b k).size = 8 := by
  unfold tagS
  rw [if_neg (by omega), strOfNums_size, outs_length]
set_option maxHeartbeats 4000000 in
set_option maxRecDepth 100000 in
theorem c13 (x : G16) (key : ByteArray) (ai : Option Addr) (ci : Nat) (w : World) (hs : x.le 1048576) (hat : LksAt w ai x.ls) (hk : key.size ≤ 1048576) :
    Calls Tryz.prog 13 #[.agg #[.int .i64 x.kd, .int .i64 x.to, .int .i64 x.fr, .int .i64 x.ep, .int .i64 x.ed, .string x.km.nm, .string x.km.tl, .string x.km.ar, .slice ai x.ls.length ci, .int .i64 x.ct, .bool x.tn.over, .int .i64 x.tn.cd, .string x.tn.tx, .bool x.tn.has, .string x.tn.nm, .int .i64 x.tn.st], .string key] w fun e w' => IsT (Fm x key) (fmL x key) e ∧ Below w.heap.size w w' := by
  have HAT : Hid (LksAt w ai x.ls) := hat
  have HS : Hid (x.le 1048576) := hs
  have hB0 : ∀ o, Below w.heap.size w (w.alloc o) := fun o => (Below.refl _ _).alloc (Nat.le_refl _) _
  clear hat hs
  go_enter Tryz.func13, Tryz.ntmps13
  go_wp2_with fail
  refine (c27m x ai ci _ HS.out (lks_below HAT.out (hB0 _))).mono ?_
  rintro e w1 ⟨⟨s, rfl, hr⟩, hb0⟩
  have hb1 : Below w.heap.size w w1 := (hB0 _).trans (hb0.mono (by simp))
  clear hb0
  rcases hr with ⟨hm, rfl⟩ | ⟨hm, rfl⟩
  · have hl := msg_len hm
    have z : (ofL (msgL x)).size = (msgL x).length := ofL_size _
    have HE : Hid (tagS (ofL (msgL x)) key ++ ofL (msgL x) = ofL (fmL x key)) := by
      show ofL (tagS (ofL (msgL x)) key).data.toList ++ ofL (msgL x) = _
      rw [cat_ofL]; rfl
    have n1 : ¬ (ofL (msgL x)).size = 0 := by omega
    have n2 : ¬ (ofL (msgL x)).toList = [] := fun h => by rw [ba_nil] at h; rw [h] at n1; exact n1 rfl
    have n3 : (ofL (msgL x)).toList.isEmpty = false := by cases h : (ofL (msgL x)).toList with | nil => exact absurd h n2 | cons => rfl
    by_cases h30 : key.size ≤ 30
    · have HF : Hid (Fm x key) := ⟨hm, h30⟩
      have z8 := tag_size (ofL (msgL x)) key h30
      have k1 : ¬ 9223372036854775807 < (tagS (ofL (msgL x)) key).size + (ofL (msgL x)).size := by omega
      go_wp2_with fail
      refine (c34 (ofL (msgL x)) key _ (by omega) hk).mono ?_
      rintro e w2 ⟨rfl, hb2⟩
      have hB2 : Below w.heap.size w w2 := hb1.trans (hb2.mono hb1.size)
      clear hb2
      go_wp2
      go_ret
      exact ⟨⟨_, rfl, .inl ⟨HF.out, HE.out⟩⟩, hB2⟩
    · have HN : Hid (IsT (Fm x key) (fmL x key) (.returned (.string ⟨#[]⟩))) := isT_no (fun h => h30 h.2)
      go_wp2
      go_ret
      exact ⟨HN.out, hb1⟩
  · have HN : Hid (IsT (Fm x key) (fmL x key) (.returned (.string ⟨#[]⟩))) := isT_no (fun h => hm h.1)
    go_wp2
    go_ret
    exact ⟨HN.out, hb1⟩
end Go.Proofs.YtdcgjdgpiogdaaaGreatDoor
