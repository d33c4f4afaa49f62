import Derived.Test.YtbgdfcmeheaiiaaGreatDoorLC
import Derived.Test.YtbgdfcmeheaiiaaGreatDoorLJ
set_option linter.unusedVariables false
set_option maxHeartbeats 8000000
set_option maxRecDepth 100000
namespace Go.Proofs.YtbgdfcmeheaiiaaGreatDoor.fnExactValidWorld
open Proofs.Tryz Go.ChangeShapes Go.WideShapes Go.ChangeAt Go.RowKit
theorem lifted(os:Os)(started:os.Started)(H:Type)(enc:TypeId×Value->H)(F:Stop.Interp):
 ReturnsInHanded {} Tryz.checked os 3 .any ((OpenSpec.ofChange Rows.fnExactValidWorldSpec).preRow enc prog Tryz.f3 Rows.fnExactValidWorldRow.domain false Rows.fnExactValidWorldRow.laid) (((OpenSpec.ofChange Rows.fnExactValidWorldSpec).at F).post enc prog Tryz.f3 false true false false):=by
 obtain⟨ds,gs,places,hx⟩:=reads os enc;refine returnsInHanded_of_row (C:=Tryz.checked) (s:=OpenSpec.ofChange Rows.fnExactValidWorldSpec) own started (by as_aux_lemma=>kernel_rfl) func3
  (witness_row_atRef (enc:=enc) (C:=Tryz.checked) false (laidWorld os) #[zb] rfl (by as_aux_lemma=>kernel_rfl) (by as_aux_lemma=>kernel_rfl) (by as_aux_lemma=>kernel_rfl)
   (OpenSpec.preRow_of_cond 8 hx (by as_aux_lemma=>kernel_rfl) (λk hk=>by cases hk) (by as_aux_lemma=>kernel_rfl) (laid_met os))) ?_
 intro W base args ds gs before hval hW _ _ _ hL hSO _;exact contract H enc W base args ds gs before hval hW hL hSO
theorem said:Rows.FnExactValidWorldSaid:=
 OpenClaim.holds_of_cond 3 Tryz.f3 rfl rfl rfl rfl rfl rfl rfl ⟨rfl,rfl,rfl,rfl,rfl⟩ rfl rfl rfl rfl rfl (by as_aux_lemma=>kernel_rfl) func3 jf
  (of_decide_eq_true (by as_aux_lemma=>kernel_rfl)) (by unfold Func.isWrapper;first|(rw[if_pos (by decide +kernel)];kernel_rfl)|(rw[if_neg (by decide +kernel)];exact⟨rfl,rfl⟩))
  (λos started H enc _ F=>by rw[OpenClaim.pre_eq_preRow];exact lifted os started H enc F)
theorem plain (f:FuncId) (fn:Func) (hf:Tryz.pinned.checked.prog.funcNamed "loop.example/kiln/laws.FnExactValidWorld"=some f) (hfn:Tryz.pinned.checked.prog.funcs[f]?=some fn):
 true=Tryz.pinned.checked.prog.looks []/\∀(j:Nat) t,fn.params[j]?=some t->Tryz.pinned.checked.prog.wantsStandIn t=false:=by
 obtain rfl:f=3:=Option.some.inj ((show prog.funcNamed "loop.example/kiln/laws.FnExactValidWorld"=some 3 by kernel_rfl).symm.trans hf) |>.symm;obtain rfl:fn=Tryz.f3:=(Option.some.inj (func3.symm.trans hfn)).symm;refine⟨by kernel_rfl,λj t ht=>?_⟩;rw[Tryz.params3]at ht;obtain rfl:t=40:=by simpa using Array.mem_of_getElem? ht
 exact(show prog.wantsStandIn 40=false by kernel_rfl)
theorem goes_no {P:Program} {c:OpenClaim} (hs:c.start=.entering) (h:P.funcs.any Func.goes=false):false=c.goesBy P:=by
 have hg:∀ f,P.goes f=false:=fun f=>by
  unfold Program.goes
  rw [h,Bool.and_false,Bool.or_false]
  have:∀ g:FuncId,(P.funcs[g]?).any Func.goes=false:=fun g=>by
   cases e:P.funcs[g]? with
   | none=>rfl
   | some fn=>
    obtain ⟨hl,rfl⟩:=Array.getElem?_eq_some_iff.1 e
    have:=Array.any_eq_false.1 h g hl
    simpa using this
  simp [this]
 unfold OpenClaim.goesBy Program.goesAt Program.goesFrom
 rw [hs]
 cases P.funcNamed c.func <;> simp [hg]
theorem goes0:prog.funcs.any Func.goes=false:=by kernel_rfl
theorem card:Rows.FnExactValidWorldCardSaid:=
 Claim7.holds_tied_plain_at .later [] _ _ _ _ said (λ_ h=>by cases h) (by kernel_rfl) (λ_ h=>by cases h) fnExactValidWorld_row_tie rfl ⟨rfl,rfl⟩ (by kernel_rfl) rfl plain (goes_no rfl goes0)
end Go.Proofs.YtbgdfcmeheaiiaaGreatDoor.fnExactValidWorld
namespace Go.Proofs.YtbgdfcmeheaiiaaGreatDoor
open Proofs.Tryz
theorem fnExactValidWorld_holds:Rows.FnExactValidWorldCardSaid:=fnExactValidWorld.card
#print axioms fnExactValidWorld_holds
