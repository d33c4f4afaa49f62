import Derived.Test.YtkhlekmicpmpkaaGreatDoorK3
namespace Go.Proofs.YtkhlekmicpmpkaaGreatDoor
open Go.RowKit
set_option maxRecDepth 100000
set_option linter.unusedVariables false
theorem wpList_app {P : Program} {ops : Array Oper} {rest : List Oper} {o : Oper} {a : Act} {w : World} {Q : Exit → Act → World → Prop}
 (hgd : o.guard = none) (s x : Operand) (t : TypeId) (hop : o.op = Op.call { callee := Callee.builtin Builtin.append, args := #[s, x], argTypes := #[t, t] })
 (base : Nat) (e : TypeId) (i : TypeInfo) (z : Value) (size bytes : Nat) (h1 : P.underlying t = some (.slice e)) (h2 : P.info? e = some i) (h3 : i.zero = some z) (h4 : i.size = size) (h5 : i.bytes = bytes) (h6 : z.cells.size = size) (h7 : 0 < size)
 (v : Value) (n : Nat) (xs : List Value) (hs : a.eval s = v) (hown : w.ownsRow base e size v n xs)
 (ad : Addr) (m c : Nat) (news : List Value) (hx : a.eval x = .slice (some ad) m c) (hn : news.length = m * size) (hc : ∀ j u, news[j]? = some u → w.cell? (ad.add j) = some u) (h1c : ∀ u ∈ news, u.oneCell' = true)
 (b1 : n + m ≤ maxLen) (b2 : (n + m) * bytes ≤ 140737488355328) (hb : base ≤ w.heap.size)
 (hK : ∀ v' w', w'.ownsRow base e size v' (n + m) (xs ++ news) → w.grownBy w' v.ownBlock → wpList P ops Q rest (a.put o.dst v') w') : wpList P ops Q (o :: rest) a w := by
 refine wpList_plain hgd fun K hK' => ?_
 obtain ⟨v', w', hrun, r1, r2, _⟩ := run_append_own (P := P) w base t o.type e i z size bytes h1 h2 h3 h4 h5 h6 h7 v n xs hown ad m c news hn hc h1c b1 b2 hb
 unfold Oper.wp
 simp [execOp, hop, resolve, invoke, builtin, hs, hx, hrun, Result.andThen]
 exact hK' _ _ (hK v' w' r1 r2)
theorem own_blk {u : World} {base e size n : Nat} {v : Value} {xs : List Value} (h : u.ownsRow base e size v n xs) {k : Nat} (hk : v.ownBlock = some k) : base ≤ k := by
 rcases h.2 with ⟨hv, _⟩ | ⟨g, cap, cur, hv, hg, hh, _⟩
 · subst hv; simp [Value.ownBlock] at hk
 · subst hv
   simp [Value.ownBlock] at hk
   omega
theorem row_form {u : World} {base e size n : Nat} {v : Value} {xs : List Value} (h : u.ownsRow base e size v n xs) : ∃ a c, v = .slice a n c := by
 rcases h.2 with ⟨hv, h0⟩ | ⟨g, cap, cur, hv, hg, hh, _⟩
 · exact ⟨none, 0, by rw [hv, h0]⟩
 · exact ⟨_, _, hv⟩
def askR : List L4 → List (Int × ByteArray)
 | [] => []
 | x :: r => if x.has then askR r else (x.cd, x.tx) :: askR r
theorem askR_snoc (l : List L4) (x : L4) : askR (l ++ [x]) = askR l ++ (if x.has then [] else [(x.cd, x.tx)]) := by
 induction l with
 | nil => cases h : x.has <;> simp [askR, h]
 | cons y r ih => cases h : y.has <;> simp [askR, h, ih]
theorem askR_len (l : List L4) : (askR l).length ≤ l.length := by
 induction l with
 | nil => exact Nat.le_refl _
 | cons y r ih => cases h : y.has <;> simp [askR, h] <;> omega
def resC (rs : List (Int × ByteArray)) : List Value := rs.flatMap fun r => [.int .i64 r.1, .string r.2]
theorem resC_snoc (l : List (Int × ByteArray)) (c : Int) (s : ByteArray) : resC (l ++ [(c, s)]) = resC l ++ [.int .i64 c, .string s] := by simp [resC]
theorem take_next {l : List L4} {k : Nat} (h : k < l.length) : l.take (k + 1) = l.take k ++ [l.getD k l4z] := by
 rw [List.take_add_one, List.getElem?_eq_getElem h]
 simp [List.getD, List.getElem?_eq_getElem h]
theorem info45 : (Tryz.prog.info? 45).map (fun i => (i.zero, i.size, i.bytes)) = some (some (.agg #[.int .i64 0, .string ⟨#[]⟩]), 2, 24) := by kernel_rfl
theorem info_parts' {P : Program} {e : TypeId} {z : Value} {n m : Nat} (h : (P.info? e).map (fun i => (i.zero, i.size, i.bytes)) = some (some z, n, m)) : ∃ i, P.info? e = some i ∧ i.zero = some z ∧ i.size = n ∧ i.bytes = m := by
 cases hq : P.info? e with
 | none => simp [hq] at h
 | some i =>
  simp only [hq, Option.map_some, Option.some.injEq, Prod.mk.injEq] at h
  exact ⟨i, rfl, h.1, h.2.1, h.2.2⟩
set_option maxHeartbeats 4000000 in
theorem c87 (ls : List L4) (a : Option Addr) (cap : Nat) (w : World) (hl : ls.length ≤ 1048576) (hat : LksAt w a ls) :
 Calls Tryz.prog 87 #[.slice a ls.length cap] w fun e w' => (∃ v, e = .returned v ∧ w'.ownsRow w.heap.size 45 2 v (askR ls).length (resC (askR ls))) ∧ Below w.heap.size w w' := by
 obtain ⟨i0, hi, hz0, hz1, hz2⟩ := info_parts' info45
 obtain ⟨b, off, hc⟩ := lks_some hat
 have HC := hidI hc
 clear hc hat
 go_enter Tryz.func87, Tryz.ntmps87
 go_wp2_with fail
 go_loopw [3, 8] (fun v i wr => ∃ (k : Nat), k ≤ ls.length ∧ i = .int .i64 k ∧ Hid (wr.ownsRow w.heap.size 45 2 v (askR (ls.take k)).length (resC (askR (ls.take k)))) ∧ Below w.heap.size w wr) (fun _ i _ => ls.length - (intOf i).toNat)
 case atStart => exact ⟨0, Nat.zero_le _, rfl, World.ownsRow_nil _ _ _ _, Below.refl _ _⟩
 case round =>
  obtain ⟨k, hk, rfl, HO, hb⟩ := hrel
  by_cases hlt : k < ls.length
  · rcases HC.out with hss | ⟨ha, hbw, hcell⟩
    · rw [hss] at hlt; exact absurd hlt (Nat.not_lt_zero _)
    subst ha
    have g0 := (hb.cell (p := ⟨b, off + k * 4, none⟩) hbw).trans (hcell k hlt).1
    have g1 := (hb.cell (p := ⟨b, off + k * 4 + 1, none⟩) hbw).trans (hcell k hlt).2.1
    have g2 := (hb.cell (p := ⟨b, off + k * 4 + 2, none⟩) hbw).trans (hcell k hlt).2.2.1
    have g3 := (hb.cell (p := ⟨b, off + k * 4 + 3, none⟩) hbw).trans (hcell k hlt).2.2.2
    have HT := hidI (take_next hlt)
    have hln : (askR (ls.take k)).length ≤ 1048576 := Nat.le_trans (askR_len _) (by simp; omega)
    clear hcell
    generalize hx : ls.getD k l4z = x at *
    clear hx
    obtain ⟨h, nm, cd, tx⟩ := x
    simp only at g0 g1 g2 g3
    have hz := hb.size
    cases h
    · have HA : Hid (askR (ls.take (k + 1)) = askR (ls.take k) ++ [(cd, tx)]) := by
       show askR _ = _
       rw [HT.out, askR_snoc]
       simp
      have hA2 : Below w.heap.size w ((wr.alloc (.cells #[.bool false, .string nm, .int .i64 cd, .string tx] 61)).alloc (.cells #[.int .i64 cd, .string tx] 45)) := (hb.alloc hz _).alloc (by simp; omega) _
      have H2 := hidI (World.ownsRow.alloc (World.ownsRow.alloc HO.out (.cells #[.bool false, .string nm, .int .i64 cd, .string tx] 61)) (.cells #[.int .i64 cd, .string tx] 45))
      have hzA : ((wr.alloc (.cells #[.bool false, .string nm, .int .i64 cd, .string tx] 61)).alloc (.cells #[.int .i64 cd, .string tx] 45)).heap.size = wr.heap.size + 2 := by simp
      have HR : Hid (∀ j u, ([.int .i64 cd, .string tx] : List Value)[j]? = some u → ((wr.alloc (.cells #[.bool false, .string nm, .int .i64 cd, .string tx] 61)).alloc (.cells #[.int .i64 cd, .string tx] 45)).cell? ((⟨wr.heap.size + 1, 0, none⟩ : Addr).add j) = some u) := fun j u hj => by
       rw [adr_add, Nat.zero_add]
       match j with
       | 0 => obtain rfl := Option.some.inj hj; simp [go_sem]
       | 1 => obtain rfl := Option.some.inj hj; simp [go_sem]
       | j + 2 => simp at hj
      clear HO
      go_wp2_with (refine wpList_app rfl (.tmp 15) (.tmp 18) 140 rfl w.heap.size 45 i0 (.agg #[.int .i64 0, .string ⟨#[]⟩]) 2 24 Tryz.underlying140 hi hz0 hz1 hz2 rfl (by decide) _ _ _ rfl H2.out ⟨wr.heap.size + 1, 0, none⟩ 1 1 [.int .i64 cd, .string tx] rfl rfl HR.out (by simp [Value.oneCell']) (by unfold maxLen; omega) (by omega) (by omega) ?_; intro v2 w2 hO2 hgrow; obtain ⟨a2, c2, rfl⟩ := row_form hO2; have HO2 := hidI hO2; have hB2 : Below w.heap.size w w2 := hA2.grown hgrow (by omega) (fun q hq => own_blk H2.out hq); clear hO2 hgrow H2 HR)
      go_roundw
      case rel => exact ⟨k + 1, by omega, by go_num, by rw [HA.out, resC_snoc, List.length_append]; exact HO2.out, hB2⟩
      case measure => simp [intOf]; omega
    · have HA : Hid (askR (ls.take (k + 1)) = askR (ls.take k)) := by
       show askR _ = _
       rw [HT.out, askR_snoc]
       simp
      have hA1 : Below w.heap.size w (wr.alloc (.cells #[.bool true, .string nm, .int .i64 cd, .string tx] 61)) := hb.alloc hz _
      have H1 := hidI (World.ownsRow.alloc HO.out (.cells #[.bool true, .string nm, .int .i64 cd, .string tx] 61))
      go_wp2
      go_roundw
      case rel => exact ⟨k + 1, by omega, by go_num, by rw [HA.out]; exact H1.out, hA1⟩
      case measure => simp [intOf]; omega
  · obtain rfl : k = ls.length := by omega
    obtain ⟨a3, c3, rfl⟩ := row_form HO.out
    have HF : Hid (wr.ownsRow w.heap.size 45 2 (.slice a3 (askR (List.take ls.length ls)).length c3) (askR ls).length (resC (askR ls))) := by show World.ownsRow _ _ _ _ _ _ _; have h := HO.out; rw [List.take_length] at h ⊢; exact h
    go_wp2
    go_ret
    exact ⟨⟨_, rfl, HF.out⟩, hb⟩
end Go.Proofs.YtkhlekmicpmpkaaGreatDoor
