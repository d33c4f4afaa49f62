import Derived.Test.YthfmmimmfcnhmaaGreatDoorRows
import Derived.Lib.LaidU8
import Derived.MakeChecks
import Derived.OpenShut
import Derived.Deep.Strs
import Derived.Test.YthfmmimmfcnhmaaGreatDoorG9
import Derived.Test.YthfmmimmfcnhmaaGreatDoorZ43
set_option linter.unusedVariables false
namespace Go.Proofs.YthfmmimmfcnhmaaGreatDoor.LT
open Proofs.Tryz
open Go.RowKit
variable {H α:Type} {W w:World} {base fuel i:Nat}
theorem gShapes:prog.globalNamed "loop.example/kiln/impl.shapes"=some 9:=by kernel_rfl
theorem gShapesT:(prog.globals[9]?).map (·.type)=some 254:=by kernel_rfl
theorem cells253:prog.cellsOf 253=3:=by kernel_rfl
theorem cells9:prog.cellsOf 9=1:=by kernel_rfl
theorem cells4:prog.cellsOf 4=1:=by kernel_rfl
theorem list3 {l:List α} (h:l.length=3):∃ a b c,l=[a,b,c]:=by
 rcases l with _ | ⟨a,_ | ⟨b,_ | ⟨c,_ | ⟨d,l⟩⟩⟩⟩
 · cases h
 · cases h
 · cases h
 · exact ⟨a,b,c,rfl⟩
 simp at h
theorem shape_cells {enc:TypeId×Value->H} {sp:Nat->Bool} {held:Bool} {cs:List Value} {l:List UInt8} {a b:Bool} {p:List MemPlace}
 (h:DataW.trod enc prog w base sp held fuel 253 cs=some (.agg [.lit (.string l),.lit (.bool a),.lit (.bool b)],p)):cs=[.string ⟨l.toArray⟩,.bool a,.bool b]:=by
 obtain ⟨y0,y1,y2,n,hx,hlen,h0,h1,h2⟩:=Go.Deep.trod_struct3 underlying253 h
 rw [cells253] at hlen
 obtain ⟨c0,c1,c2,rfl⟩:=list3 hlen
 simp only [cells9,cells4] at h0 h1 h2
 obtain ⟨s,e0,r0,_⟩:=DataW.trod_string underlying9 h0
 obtain ⟨a',e1,r1⟩:=DataW.trod_bool underlying4 h1
 obtain ⟨b',e2,r2⟩:=DataW.trod_bool underlying4 h2
 subst r0 r1 r2
 simp at e0 e1 e2 hx
 obtain ⟨⟨q0,q1,q2⟩,_⟩:=hx
 have:s=⟨l.toArray⟩:=by apply ByteArray.ext;rw [q0]
 rw [e0,e1,e2,this,q1,q2]
theorem map_fst_get {xs:List (DataW H×List MemPlace)} {ds:List (DataW H)} (h:xs.map (·.1)=ds) {d:DataW H} (hd:ds[i]?=some d):∃ p,xs[i]?=some (d,p):=by
 rw [<- h,List.getElem?_map] at hd
 cases hx:xs[i]? with
 | none=>rw [hx] at hd;simp at hd
 | some y=>rw [hx] at hd;simp at hd;exact ⟨y.2,by rw [<- hd]⟩
theorem take3 {l:List α} {a b c:α} (h:(l.drop i).take 3=[a,b,c]):l[i]?=some a/\l[i+1]?=some b/\l[i+2]?=some c:=by
 have g:∀ j,j<3->((l.drop i).take 3)[j]?=l[i+j]?:=fun j hj=>by rw [List.getElem?_take_of_lt hj,List.getElem?_drop]
 rw [h] at g
 exact ⟨(g 0 (by omega)).symm,(g 1 (by omega)).symm,(g 2 (by omega)).symm⟩
def shapeD {H:Type} (op:Nat):DataW H:=.agg [.lit (.string (word op)),.lit (.bool (usesTo op)),.lit (.bool (usesTx op))]
theorem laid_at (op:Nat) (h1:1<=op) (h2:op<=11):∃ ds:List (DataW Unit),Rows.laid_loop_example_kiln_impl_shapes=DataW.agg ds/\ds[op]?=some (shapeD op):=by
 refine ⟨_,rfl,?_⟩
 obtain rfl | rfl | rfl | rfl | rfl | rfl | rfl | rfl | rfl | rfl | rfl:op=1\/op=2\/op=3\/op=4\/op=5\/op=6\/op=7\/op=8\/op=9\/op=10\/op=11:=by omega
 all_goals rfl
theorem shapes_of_reads (h:Go.Lib.VarReads prog W "loop.example/kiln/impl.shapes" Rows.laid_loop_example_kiln_impl_shapes):ShapesAt W:=by
 obtain ⟨g,t,cs,fuel,p,hg,hty,hvar,hd⟩:=h
 obtain rfl:=Option.some.inj (gShapes.symm.trans hg)
 obtain rfl:=Option.some.inj (gShapesT.symm.trans hty)
 obtain ⟨xs,m,_,hx,hcl,hxl,hel⟩:=DataW.trod_array underlying254 hd
 intro op h1 h2
 obtain ⟨ds,hds,hget⟩:=laid_at op h1 h2
 rw [hds] at hx
 have hmap:xs.map (·.1)=ds:=by
  have:=congrArg Prod.fst hx
  injection this with this
  exact this.symm
 obtain ⟨q,hq⟩:=map_fst_get hmap hget
 have he:=hel op (by omega)
 rw [hq,cells253] at he
 have hc:=shape_cells he
 obtain ⟨r0,r1,r2⟩:=take3 hc
 have hv:=World.var?_cell hg hvar
 refine ⟨?_,?_,?_⟩
 · rw [hv,<- Array.getElem?_toList];exact r0
 · rw [hv,<- Array.getElem?_toList];exact r1
 rw [hv,<- Array.getElem?_toList];exact r2
end Go.Proofs.YthfmmimmfcnhmaaGreatDoor.LT
namespace Go.Proofs.YthfmmimmfcnhmaaGreatDoor
open Proofs.Tryz
open Go.RowKit
theorem goL_fold {tl ar:ByteArray}:∀ (ls:List M.L4) (t:TN) (s:RS),(∀ a x b,ls=a++x::b->¬ Halt (a.foldl (fun p x=>nextR tl ar p.2 ⟨x.cd,x.tx⟩) (t,s)).1 x)->goL tl ar t s ls=(ls.foldl (fun p x=>nextR tl ar p.2 ⟨x.cd,x.tx⟩) (t,s)).1
 | [],_,_,_=>rfl
 | x::xs,t,s,h=>by
  rw [goL_go (show ¬ Halt t x from h [] x xs rfl)]
  refine (goL_fold xs _ _ fun a y b e=>?_).trans rfl
  have:=h (x::a) y b (by rw [e];rfl)
  exact this
theorem goT_hist {E:Env} (hE:EnvOk E) {m:M3} {L:List M.L4} (hm:okM m=true) (h:Hist E m L):goT m L=tn m L:=by
 rw [goT_yes hm (hist_ok hE hm h).1]
 refine goL_fold L _ _ fun a x b e=>?_
 subst e
 obtain ⟨h1,r,h2,h3⟩:=hist_next h
 have hk:=(hist_ok hE hm h).2 x (by simp)
 intro hh
 rcases hh with hh | hh | hh | hh
 · exact absurd (hh.symm.trans h1) (by decide)
 · exact hh (by rw [h2];rfl)
 · exact hh (by rw [h2];rfl)
 exact hh hk
end Go.Proofs.YthfmmimmfcnhmaaGreatDoor
