import Derived.Test.YtdgneicbmalnpaaGreatDoorLC
import Derived.Test.YtdgneicbmalnpaaGreatDoorLJ
set_option linter.all false
set_option maxHeartbeats 0
set_option maxRecDepth 99999
namespace Go.Proofs.YtdgneicbmalnpaaGreatDoor.fnExactBossAsk
open Proofs.Tryz Go.ChangeShapes Go.WideShapes Go.ChangeAt Go.RowKit
theorem lifted(os:Os)(started:os.Started)(H:Type)(enc:TypeId×Value->H)(F:Stop.Interp):
 ReturnsInHanded {} Tryz.checked os 3 .any ((OpenSpec.ofChange Rows.fnExactBossAskSpec).preRow enc prog Tryz.f3 Rows.fnExactBossAskRow.domain false Rows.fnExactBossAskRow.laid) (((OpenSpec.ofChange Rows.fnExactBossAskSpec).at F).post enc prog Tryz.f3 false true false false):=by
 obtain⟨ds,gs,places,hx⟩:=reads os enc;refine returnsInHanded_of_row (C:=Tryz.checked) (s:=OpenSpec.ofChange Rows.fnExactBossAskSpec) own started (by as_aux_lemma=>kernel_rfl) func3
  (witness_row_atRef (enc:=enc) (C:=Tryz.checked) false (laidWorld os) #[zb,.string ⟨#[]⟩] rfl (by as_aux_lemma=>kernel_rfl) (by as_aux_lemma=>kernel_rfl) (by as_aux_lemma=>kernel_rfl)
   (OpenSpec.preRow_of_cond 8 hx (by as_aux_lemma=>kernel_rfl) (λk hk=>by cases hk) (by as_aux_lemma=>kernel_rfl) (laid_met os))) ?_
 intro W base args ds gs before hval hW _ _ _ hL hSO _;exact contract H enc W base args ds gs before hval hW hL hSO
theorem said:Rows.FnExactBossAskSaid:=
 OpenClaim.holds_of_cond 3 Tryz.f3 rfl rfl rfl rfl rfl rfl rfl ⟨rfl,rfl,rfl,rfl,rfl⟩ rfl rfl rfl rfl rfl (by as_aux_lemma=>kernel_rfl) func3 jf
  (of_decide_eq_true (by as_aux_lemma=>kernel_rfl)) (by unfold Func.isWrapper;first|(rw[if_pos (by decide +kernel)];kernel_rfl)|(rw[if_neg (by decide +kernel)];exact⟨rfl,rfl⟩))
  (λos started H enc _ F=>by rw[OpenClaim.pre_eq_preRow];exact lifted os started H enc F)
theorem plain (f:FuncId) (fn:Func) (hf:Tryz.pinned.checked.prog.funcNamed "loop.example/kiln/laws.FnExactBossAsk"=some f) (hfn:Tryz.pinned.checked.prog.funcs[f]?=some fn):
 true=Tryz.pinned.checked.prog.looks []/\∀(j:Nat) t,fn.params[j]?=some t->Tryz.pinned.checked.prog.wantsStandIn t=false:=by
 obtain rfl:f=3:=Option.some.inj ((show prog.funcNamed "loop.example/kiln/laws.FnExactBossAsk"=some 3 by kernel_rfl).symm.trans hf) |>.symm;obtain rfl:fn=Tryz.f3:=(Option.some.inj (func3.symm.trans hfn)).symm;refine⟨by kernel_rfl,λj t ht=>?_⟩;rw[Tryz.params3]at ht;obtain rfl|rfl:t=35\/t=9:=by simpa using Array.mem_of_getElem? ht
 ·exact(show prog.wantsStandIn 35=false by kernel_rfl)
 exact(show prog.wantsStandIn 9=false by kernel_rfl)
theorem goes_no{P:Program}{c:OpenClaim}(hs:c.start=.entering)(h:P.funcs.any Func.goes=false):false=c.goesBy P:=by
 have hg:∀f,P.goes f=false:=λf=>by
  unfold Program.goes;rw[h,Bool.and_false,Bool.or_false];have:∀g:FuncId,(P.funcs[g]?).any Func.goes=false:=λg=>by
   cases e:P.funcs[g]? with
   | none=>rfl
   | some fn=>
    obtain⟨hl,rfl⟩:=Array.getElem?_eq_some_iff.1 e;have:=Array.any_eq_false.1 h g hl;simpa using this
  simp[this]
 unfold OpenClaim.goesBy Program.goesAt Program.goesFrom;rw[hs];cases P.funcNamed c.func<;>simp[hg]
theorem goes0:prog.funcs.any Func.goes=false:=by kernel_rfl
theorem card:Rows.FnExactBossAskCardSaid:=
 Claim7.holds_tied_plain_at .later [] _ _ _ _ said (λ_ h=>by cases h) (by kernel_rfl) (λ_ h=>by cases h) fnExactBossAsk_row_tie rfl ⟨rfl,rfl⟩ (by kernel_rfl) rfl plain (goes_no rfl goes0)
end Go.Proofs.YtdgneicbmalnpaaGreatDoor.fnExactBossAsk
namespace Go.Proofs.YtdgneicbmalnpaaGreatDoor
open Proofs.Tryz
theorem fnExactBossAsk_holds:Rows.FnExactBossAskCardSaid:=fnExactBossAsk.card
#print axioms fnExactBossAsk_holds
