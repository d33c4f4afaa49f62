import Derived.Laws.EntriesVeiled
import Derived.Test.YtdjaajjndfbpmaaGreatDoorZ47
import Derived.Test.YtdjaajjndfbpmaaGreatDoorZ46
set_option linter.unusedVariables false
set_option maxHeartbeats 8000000
set_option maxRecDepth 100000
namespace Go.Proofs.YtdjaajjndfbpmaaGreatDoor
open Proofs.Tryz
open Go.RowKit
open G (H6)
open G.T (F2 P6 X3 F3)
structure BD (f:Fx) (E:Env):Prop where
 ten:10<=f.base
 vT:A7 f.w0
 mx:Z9 f.w0
 fa:F3 f.w0 f.ta f.fs
 tr:X3 f.fs
 pt:H6 f.fs f.ms
 hE:E=P5 f.fs f.ms
def BJ (g g':Gh) (m:M3) (i:Nat) (x:Ru):Prop:=
 (g.rs[i]?=some x/\x.k.m.nm=m.nm/\g'.rs=g.rs/\g'.q=g.q)\/
 (i=g.rs.length/\(∀ (j:Nat) y,g.rs[j]?=some y->y.k.m.nm≠m.nm)/\g'.rs=g.rs++[x]/\g'.q=g.q++[.go i]/\x.k.m=m/\x.ls=[]/\x.st=false/\x.wl=[]/\x.qR=.yR/\x.r=⟨6,⟨#[]⟩⟩)
section
variable {P:Program}
theorem Yv {o:Oper} {a:Act} {w:World} (t:TypeId) (x y:Operand) (ok:Bool) (ho:o.op=.lookup t x y ok) {v z u:Value} (hx:a.eval x=v) (b:a.eval y=z) (c:(Instr.lookup t v z ok).run P w=.ok u w):(execOp a.eval o).run P w=.ok (.value u) w:=by
 unfold execOp;simp only [ho,hx,b,Hf,c,Oj,Nj]
end
theorem Cl.gb {w w':World} {b:Nat} {t:TypeId} {xs:List Value} {row:Option Nat} (h:Cl w b t xs) (c:w.grownBy w' row) (a:some b≠row):Cl w' b t xs:=(c.block b h.lt a).trans h
def kv (p:Option Value):Value:=.tuple #[p.getD (.pointer none),.bool p.isSome]
theorem ZL {w:World} {b n:Nat} {l:List (ByteArray×Value)} {k:ByteArray} (h:w.ownsMap prog 9 X9 b n (mapD l)) (a:k.size<=maxLen):(Instr.lookup 94 (.map (some b)) (.string k) true).run prog w=.ok (kv (G_ l k)) w:=nD h underlying94 (zeroValue100 w) a
theorem iN {w w':World} {b:Nat} (h:w.grownBy w' (some b)):Ex (fun k=>k=b) w w':=⟨h.os,h.tape,h.output,h.size,fun k c a=>h.block k c (fun e=>a (j6 e))⟩
theorem Ex.trans' {w u w':World} {b:Nat} (h:Ex (fun k=>k=b) w u) (a:u.grownBy w' (some b)):Ex (fun k=>k=b) w w':=h.trans (iN a)
theorem jB {l:List (ByteArray×Value)} {k:ByteArray} {v:Value} {w:World} {b n:Nat} (h:w.ownsMap prog 9 X9 b n ((mapD l).put (kS k) (.held v))):w.ownsMap prog 9 X9 b (Ei (k,v) (l.filter fun p=>!decide (p.1=k))).length (mapD (Ei (k,v) (l.filter fun p=>!decide (p.1=k)))):=by
 rw [jD] at h;have:=tH h
 rwa [rD] at this
theorem Ef {α:Type}:∀ {l l':List α},l.Nodup->(∀ x∈l,x∈l')->l.length<=l'.length
 | [],_,_,_=>I5 _
 | a::l,l',hn,hs=>by
  obtain ⟨p,q,rfl⟩:=List.append_of_mem (hs a (Uh ..));have b:=nA.1 hn;have:=Ef (l:=l) (l':=p++q) b.2 (fun x hx=>by
   have:=hs x (Fg _ hx);rw [P8,D_] at this;rw [P8];rcases this with h | rfl | h
   · exact .inl h
   · exact absurd hx b.1
   exact .inr h)
  simp at this ⊢;omega
theorem kC {l:List (ByteArray×Value)} {rs:List Ru} (a:Asc l) (h:∀ n,G_ l n≠none->∃ (i:Nat) (x:Ru),rs[i]?=some x/\x.k.m.nm=n):l.length<=rs.length:=by
 have h1:(l.map (·.1)).Nodup:=by
  rw [OE,Cs];exact a.imp fun {p q} hb e=>by rw [e,wC] at hb;cases hb
 have:=Ef h1 (l':=rs.map (·.k.m.nm)) (fun n c=>by
  obtain ⟨p,b,rfl⟩:=D9.1 c;obtain ⟨i,x,hx,e⟩:=h p.1 (by rw [Tq a (v:=p.2) b];simp);exact D9.2 ⟨x,su hx,e⟩)
 simpa using this
theorem c53 (f:Fx) (E:Env) (hf:BD f E) (g:Gh) (m:M3) (w:World) (hs:Ab f g w) (hm:m.nm.size<=20) (hrl:g.rs.length<=1000) (zT:g.q.length<=1000):
 Calls prog 53 #[pt f.kb,.agg #[.string m.nm,.string m.tl,.string m.ar]] w fun e w'=>∃ (g':Gh) (i:Nat) (x:Ru),e=.returned (pt x.k.B)/\Ab f g' w'/\BJ g g' m i x/\g'.rs[i]?=some x/\Below f.base w w'/\∀ k,k<w.heap.size->g.ow k=none->w'.heap[k]?=w.heap[k]?/\g'.ow k=none:=by
 have hnl:m.nm.size<=maxLen:=by unfold maxLen;omega
 have d:=Q0 hs;obtain ⟨w1,hw1⟩:∃ u:World,u=(w.alloc (.cells #[pt f.kb] 57)).alloc (.cells #[.string m.nm,.string m.tl,.string m.ar] 47):=⟨_,rfl⟩;have hb1:Below w.heap.size w w1:=by rw [hw1];exact bA.alloc X0 _
 have PS:=Q0 (hs.grow hb1);have C2:Hid (Cl w1 w.heap.size 57 [pt f.kb]):=by show Cl _ _ _ _;rw [hw1];exact J_ (U1 w [pt f.kb] 57) _
 have C3:Hid (Cl w1 (w.heap.size+1) 47 [.string m.nm,.string m.tl,.string m.ar]):=by
  have:=U1 (w.alloc (.cells #[pt f.kb] 57)) [.string m.nm,.string m.tl,.string m.ar] 47;simp only [Wn] at this;show Cl _ _ _ _;rw [hw1];exact this
 have hz1:w1.heap.size=w.heap.size+2:=by rw [hw1];simp
 have HZ1:=Q0 hz1;have HW1:=Q0 hw1;clear hs hw1 hz1;obtain ⟨kp,kT⟩:∃ k,Hid (G_ g.lr m.nm=k):=⟨_,rfl⟩;obtain ⟨pv,bb,HKV⟩:∃ p b,Hid (kv (G_ g.lr m.nm)=.tuple #[p,.bool b]):=⟨_,_,rfl⟩;have dV:Hid (pv=(G_ g.lr m.nm).getD (.pointer none)/\bb=(G_ g.lr m.nm).isSome):=by
  have:=HKV.out;unfold kv at this;injection this with this;simp at this;exact ⟨this.1.symm,this.2.symm⟩
 go_enter func53,ntmps53;rw [show pt f.kb=.pointer (some ⟨f.kb,0,none⟩) from rfl]
 go_upto_region 1 with fail
 rw [show ((w.alloc (.cells #[.pointer (some ⟨f.kb,0,none⟩)] 57)).alloc (.cells #[.string m.nm,.string m.tl,.string m.ar] 47))=w1 from HW1.out.symm];refine F7 (S:=fun u=>Cl u w.heap.size 57 [pt f.kb]/\Cl u (w.heap.size+1) 47 [.string m.nm,.string m.tl,.string m.ar]/\Cl u f.kb 98 (M_ f g.rv)/\u.ownsMap prog 9 X9 f.mr g.lr.length (mapD g.lr)) U2 ?_ fun a=>?_
 · exact ⟨C2.out,C3.out,PS.out.kb,PS.out.mr⟩
 refine tq 0 a ?_ (v:=?_) (hv:=?e)
 case e=>intro wq hSw;(try dsimp only at hSw);obtain ⟨L,J,I,s4⟩:=hSw;have D:wq.cell? ⟨w.heap.size,0,none⟩=some (.pointer (some ⟨f.kb,0,none⟩)):=L.cell 0;have R:wq.cell? ⟨w.heap.size+1,0,none⟩=some (.string m.nm):=J.cell 0;have d3:wq.cell? ⟨f.kb,2,none⟩=some (.map (some f.mr)):=I.cell 2;go_simp;try with_reducible rfl
 refine tq 1 a ?_;refine tq 2 a ?_;refine tq 3 a ?_ (v:=?_) (hv:=?e)
 case e=>intro wq hSw;(try dsimp only at hSw);obtain ⟨L,J,I,s4⟩:=hSw;have D:wq.cell? ⟨w.heap.size,0,none⟩=some (.pointer (some ⟨f.kb,0,none⟩)):=L.cell 0;have R:wq.cell? ⟨w.heap.size+1,0,none⟩=some (.string m.nm):=J.cell 0;have d3:wq.cell? ⟨f.kb,2,none⟩=some (.map (some f.mr)):=I.cell 2;go_simp;try with_reducible rfl
 refine tq 4 a ?_;refine tq 5 a ?_ (v:=?_) (hv:=?e)
 case e=>intro wq hSw;(try dsimp only at hSw);obtain ⟨L,J,I,s4⟩:=hSw;have D:wq.cell? ⟨w.heap.size,0,none⟩=some (.pointer (some ⟨f.kb,0,none⟩)):=L.cell 0;have R:wq.cell? ⟨w.heap.size+1,0,none⟩=some (.string m.nm):=J.cell 0;have d3:wq.cell? ⟨f.kb,2,none⟩=some (.map (some f.mr)):=I.cell 2;go_simp;try with_reducible rfl
 try simp only [qq]
 refine tk (i:=6) (oi:=⟨some 18,.lookup 94 (.tmp 15) (.tmp 17) true,145,_,_,none⟩) (v:=.tuple #[pv,.bool bb]) rfl U2 rfl ?e a ?_
 case e=>intro wq hSw;exact Yv 94 _ _ true rfl (v:=.map (some f.mr)) (z:=.string m.nm) rfl rfl ((ZL hSw.2.2.2 hnl).trans (by rw [HKV.out]))
 refine tq 7 a ?_;refine tq 8 a ?_;refine tq 9 a ?_;refine tq 10 a ?_;refine I4 11 a ?_;refine a_ ?_;obtain ⟨c,hx1⟩:∃ x:World,x=w1.drew:=⟨_,rfl⟩;rw [<- hx1];have hbx:Below w1.heap.size w1 c:=by rw [hx1];exact (F4 _ w1).drew
 have HSX:=Q0 (PS.out.grow hbx);have C2x:=Q0 (C2.out.below hbx C2.out.lt);have C3x:=Q0 (C3.out.below hbx C3.out.lt);have hzx:w.heap.size+2<=c.heap.size:=by rw [hx1];exact Nat.le_of_eq HZ1.out.symm
 have hBx:=hb1.trans (hbx.mono (by have:=HZ1.out;omega));clear hx1 hbx PS C2 C3 a HW1 hb1;cases bb;rotate_left
 · obtain ⟨i,x,hix,hpx,hnx⟩:∃ (i:Nat) (x:Ru),g.rs[i]?=some x/\pv=pt x.k.B/\x.k.m.nm=m.nm:=by
    have h2:=dV.out.2
    cases h:G_ g.lr m.nm with
    | none=>rw [h] at h2;cases h2
    | some p=>
     obtain ⟨i,x,hx,hn⟩:=HSX.out.only m.nm (by rw [h];simp);have s:=HSX.out.key i x hx;rw [hn] at s;exact ⟨i,x,hx,by rw [dV.out.1,s];rfl,hn⟩
   subst hpx;clear HKV dV kT;have HIX:=Q0 hix;have CV:=Q0 hnx;clear hix hnx;go_wp2;go_ret;exact ⟨g,i,x,rfl,HSX.out,.inl ⟨HIX.out,CV.out,rfl,rfl⟩,HIX.out,hBx.mono d.out.sz,fun k s P=>⟨hBx.block k s,P⟩⟩
 have HNK:Hid (G_ g.lr m.nm=none):=by
  have:=dV.out.2
  cases h:G_ g.lr m.nm with
  | none=>rfl
  | some p=>rw [h] at this;cases this
 clear HKV dV kT;have d0:c.cell? ⟨w.heap.size+1,0,none⟩=some (.string m.nm):=C3x.out.cell 0;have D:c.cell? ⟨w.heap.size+1,1,none⟩=some (.string m.tl):=C3x.out.cell 1;have R:c.cell? ⟨w.heap.size+1,2,none⟩=some (.string m.ar):=C3x.out.cell 2
 go_upto_region 5 with fail
 obtain ⟨w2,hw2⟩:∃ u:World,u=(c.alloc (.cells #[.string m.nm,.bool true,.string m.nm,.string m.tl,.string m.ar,.slice none 0 0,.int .i64 6,.string ⟨#[]⟩,.string ⟨#[]⟩] 103)).alloc (.cells #[.pointer (some ⟨c.heap.size,0,none⟩)] 100):=⟨_,rfl⟩;rw [<- hw2];have hb2:Below c.heap.size c w2:=by rw [hw2];exact bA.alloc X0 _
 have CB:Hid (Cl w2 c.heap.size 103 [.string m.nm,.bool true,.string m.nm,.string m.tl,.string m.ar,.slice none 0 0,.int .i64 6,.string ⟨#[]⟩,.string ⟨#[]⟩]):=by show Cl _ _ _ _;rw [hw2];exact J_ (U1 c _ 103) _
 have C7:Hid (Cl w2 (c.heap.size+1) 100 [pt c.heap.size]):=by
  have:=U1 (c.alloc (.cells #[.string m.nm,.bool true,.string m.nm,.string m.tl,.string m.ar,.slice none 0 0,.int .i64 6,.string ⟨#[]⟩,.string ⟨#[]⟩] 103)) [pt c.heap.size] 100;simp only [Wn] at this;show Cl _ _ _ _;rw [hw2];exact this
 have HS2:=Q0 (HSX.out.grow hb2);have mZ:=Q0 (C2x.out.below hb2 C2x.out.lt);have C3y:=Q0 (C3x.out.below hb2 C3x.out.lt);have hB2:=hBx.trans (hb2.mono O0);clear hw2 hb2 HSX C2x C3x d0 D R;refine F7 (S:=fun u=>Cl u w.heap.size 57 [pt f.kb]/\Cl u (w.heap.size+1) 47 [.string m.nm,.string m.tl,.string m.ar]/\Cl u f.kb 98 (M_ f g.rv)/\Cl u (c.heap.size+1) 100 [pt c.heap.size]) U2 ?_ fun a=>?_
 · exact ⟨mZ.out,C3y.out,HS2.out.kb,C7.out⟩
 obtain ⟨x2,hx2⟩:∃ x:World,x=w2.drew:=⟨_,rfl⟩;rw [<- hx2] at a ⊢;have GR:Below w2.heap.size w2 x2:=by rw [hx2];exact (F4 _ w2).drew
 have KR:=Q0 (HS2.out.grow GR);have C2z:=Q0 (mZ.out.below GR mZ.out.lt);have C3z:=Q0 (C3y.out.below GR C3y.out.lt);have CBz:=Q0 (CB.out.below GR CB.out.lt);have C7z:=Q0 (C7.out.below GR C7.out.lt);have hBx2:=bT hB2 GR;clear hx2 GR mZ C3y CB C7 HS2 hB2;refine tq 0 a ?_ (v:=?_) (hv:=?e)
 case e=>intro wq hSw;(try dsimp only at hSw);obtain ⟨L,J,I,s4⟩:=hSw;have D:wq.cell? ⟨w.heap.size,0,none⟩=some (.pointer (some ⟨f.kb,0,none⟩)):=L.cell 0;have R:wq.cell? ⟨w.heap.size+1,0,none⟩=some (.string m.nm):=J.cell 0;have d3:wq.cell? ⟨f.kb,2,none⟩=some (.map (some f.mr)):=I.cell 2;have d4:wq.cell? ⟨c.heap.size+1,0,none⟩=some (.pointer (some ⟨c.heap.size,0,none⟩)):=s4.cell 0;go_simp;try with_reducible rfl
 refine tq 1 a ?_;refine tq 2 a ?_;refine tq 3 a ?_ (v:=?_) (hv:=?e)
 case e=>intro wq hSw;(try dsimp only at hSw);obtain ⟨L,J,I,s4⟩:=hSw;have D:wq.cell? ⟨w.heap.size,0,none⟩=some (.pointer (some ⟨f.kb,0,none⟩)):=L.cell 0;have R:wq.cell? ⟨w.heap.size+1,0,none⟩=some (.string m.nm):=J.cell 0;have d3:wq.cell? ⟨f.kb,2,none⟩=some (.map (some f.mr)):=I.cell 2;have d4:wq.cell? ⟨c.heap.size+1,0,none⟩=some (.pointer (some ⟨c.heap.size,0,none⟩)):=s4.cell 0;go_simp;try with_reducible rfl
 refine tq 4 a ?_;refine tq 5 a ?_ (v:=?_) (hv:=?e)
 case e=>intro wq hSw;(try dsimp only at hSw);obtain ⟨L,J,I,s4⟩:=hSw;have D:wq.cell? ⟨w.heap.size,0,none⟩=some (.pointer (some ⟨f.kb,0,none⟩)):=L.cell 0;have R:wq.cell? ⟨w.heap.size+1,0,none⟩=some (.string m.nm):=J.cell 0;have d3:wq.cell? ⟨f.kb,2,none⟩=some (.map (some f.mr)):=I.cell 2;have d4:wq.cell? ⟨c.heap.size+1,0,none⟩=some (.pointer (some ⟨c.heap.size,0,none⟩)):=s4.cell 0;go_simp;try with_reducible rfl
 refine tq 6 a ?_ (v:=?_) (hv:=?e)
 case e=>intro wq hSw;(try dsimp only at hSw);obtain ⟨L,J,I,s4⟩:=hSw;have D:wq.cell? ⟨w.heap.size,0,none⟩=some (.pointer (some ⟨f.kb,0,none⟩)):=L.cell 0;have R:wq.cell? ⟨w.heap.size+1,0,none⟩=some (.string m.nm):=J.cell 0;have d3:wq.cell? ⟨f.kb,2,none⟩=some (.map (some f.mr)):=I.cell 2;have d4:wq.cell? ⟨c.heap.size+1,0,none⟩=some (.pointer (some ⟨c.heap.size,0,none⟩)):=s4.cell 0;go_simp;try with_reducible rfl
 try simp only [qq]
 refine rq 7 fun K H=>?_;refine Yw rfl 94 _ _ _ rfl (b:=f.mr) (n:=g.lr.length) (l:=g.lr) (k:=m.nm) (vv:=pt c.heap.size) rfl rfl rfl KR.out.mr underlying94 (by have:=kC d.out.ar d.out.only;unfold maxLen;omega) hnl rfl ?_;intro X hm3 hg3;have hmr:=Y6 d.out.mr;have fV:∀ k,w.heap.size<=k->some k≠some f.mr:=fun k h e=>by have:=j6 e;omega
 have C2a:=Q0 (C2z.out.gb hg3 (fV _ P9));have nZ:=Q0 (C3z.out.gb hg3 (fV _ O0));have CBa:=Q0 (CBz.out.gb hg3 (fV _ O0));have C7a:=Q0 (C7z.out.gb hg3 (fV _ O0));have HM3:=Q0 (jB hm3);have HEX:Hid (Ex (fun k=>k=f.mr) w X):=Q0 ((Ex.rM hBx2).trans' hg3);have hz3:=D7 C7z.out.lt hg3.size;have a0W:=ah (KR.out.kb.cell 0) (Eg KR.out.mr).choose_spec.choose_spec;have gV:=Q0 ((hg3.block _ KR.out.kb.lt (fun e=>a0W (j6 e))).trans KR.out.kb);clear a;refine Z6 H ?_ fun a=>?_
 · exact ⟨C2a.out,nZ.out,gV.out,C7a.out⟩
 clear H K a hm3 hg3 C2z C3z CBz C7z KR fV gV a0W hBx2;refine a_ ?_;have d0:X.cell? ⟨w.heap.size+1,0,none⟩=some (.string m.nm):=nZ.out.cell 0;have D:X.cell? ⟨w.heap.size+1,1,none⟩=some (.string m.tl):=nZ.out.cell 1;have R:X.cell? ⟨w.heap.size+1,2,none⟩=some (.string m.ar):=nZ.out.cell 2
 go_wp2_with fail
 refine (YQ m.nm m.tl m.ar X).mono ?_;rintro e W ⟨rfl,hb4⟩;clear d0 D R
 go_upto_region 7 with fail
 have hb3:Below X.heap.size X W:=hb4;obtain ⟨V,XR⟩:∃ u:World,u=W.alloc (.cells #[.bool false,.int .i64 0,.string ⟨#[]⟩,.bool false,.string m.tl,.int .i64 0] 147):=⟨_,rfl⟩;rw [<- XR];have hb5:Below X.heap.size X V:=by rw [XR];exact hb4.alloc hb4.size _
 have C8:Hid (g_ V W.heap.size (tn m [])):=by show g_ _ _ _;rw [XR];exact Bn W _
 have C2b:=Q0 (C2a.out.below hb5 C2a.out.lt);have C3b:=Q0 (nZ.out.below hb5 nZ.out.lt);have CBb:=Q0 (CBa.out.below hb5 CBa.out.lt);have C7b:=Q0 (C7a.out.below hb5 C7a.out.lt);have ES:X.heap.size<=W.heap.size:=hb4.size;have zU:W.heap.size<V.heap.size:=C8.out.lt;have HX5:Hid (Ex (fun k=>k=f.mr) w V):=Q0 (HEX.out.wm (hb5.mono HEX.out.size));have HM5:=Q0 (M6 HM3.out hb5 (Y6 HM3.out));have d0:V.cell? ⟨w.heap.size+1,0,none⟩=some (.string m.nm):=C3b.out.cell 0;have D:V.cell? ⟨w.heap.size+1,1,none⟩=some (.string m.tl):=C3b.out.cell 1;have R:V.cell? ⟨w.heap.size+1,2,none⟩=some (.string m.ar):=C3b.out.cell 2;clear XR hb5 hb4 hb3 C2a nZ CBa C7a HEX HM3
 go_wp2_with fail
 refine (lQ m.nm m.tl m.ar V).mono ?_;rintro e Y ⟨b0,b1,b2,b3,rfl,hrw,hb6⟩;clear d0 D R
 go_upto_region 8 with fail
 obtain ⟨F,hw7⟩:∃ u:World,u=Y.alloc (.cells #[.func (.func 117) #[] #[.pointer (some ⟨b0,0,none⟩),.pointer (some ⟨b1,0,none⟩),.pointer (some ⟨b2,0,none⟩),.pointer (some ⟨b3,0,none⟩)]] 149):=⟨_,rfl⟩;rw [<- hw7];have EU:Below Y.heap.size Y F:=by rw [hw7];exact bA
 have C9:Hid (Cl F Y.heap.size 149 [.func (.func 117) #[] #[pt b0,pt b1,pt b2,pt b3]]):=by show Cl _ _ _ _;rw [hw7];exact U1 Y _ 149
 have fT:=bT hb6 EU;have HRW:=Q0 (hrw.below EU);have C2c:=Q0 (C2b.out.below fT C2b.out.lt);have C3c:=Q0 (C3b.out.below fT C3b.out.lt);have CBc:=Q0 (CBb.out.below fT CBb.out.lt);have C7c:=Q0 (C7b.out.below fT C7b.out.lt);have C8c:Hid (g_ F W.heap.size (tn m [])):=Q0 (C8.out.below fT C8.out.lt);have dY:Hid (Ex (fun k=>k=f.mr) w F):=Q0 (HX5.out.wm (fT.mono HX5.out.size));have HM7:=Q0 (M6 HM5.out fT (Y6 HM5.out));have QS:V.heap.size<=Y.heap.size:=hb6.size;have hz7:Y.heap.size<F.heap.size:=C9.out.lt;clear hw7 EU hb6 fT hrw C2b C3b CBb C7b C8 HX5 HM5
 go_upto_region 10 with fail
 obtain ⟨C,hw8⟩:∃ u:World,u=F.alloc (.cells #[.func (.func 84) #[] #[.pointer (some ⟨c.heap.size+1,0,none⟩),.pointer (some ⟨W.heap.size,0,none⟩),.pointer (some ⟨Y.heap.size,0,none⟩),.pointer (some ⟨w.heap.size,0,none⟩),.pointer (some ⟨F.heap.size,0,none⟩)]] 151):=⟨_,rfl⟩;rw [<- hw8];have aV:Below F.heap.size F C:=by rw [hw8];exact bA
 obtain ⟨x,oW⟩:∃ x:Ru,Hid (x=⟨⟨m,c.heap.size,c.heap.size+1,W.heap.size,Y.heap.size,w.heap.size,F.heap.size,b0,b1,b2,b3⟩,[],.slice none 0 0,.slice none 0 0,.slice none 0 0,.slice none 0 0,false,⟨#[]⟩,⟨6,⟨#[]⟩⟩,.yR,[]⟩):=⟨_,rfl⟩;have xV:Hid (Cl C F.heap.size 151 [x.k.go]):=by show Cl _ _ _ _;rw [hw8,oW.out];exact U1 F _ 151
 have C2d:=Q0 (C2c.out.below aV C2c.out.lt);have C7d:=Q0 (C7c.out.below aV C7c.out.lt);have hsb:=d.out.sz;have HRU:Hid (ic f.base f.kb x (tn x.k.m x.ls) (Sg x.k.m x.ls) C):=by
  have N:=HRW.out.below aV;have pW:f.base<=V.heap.size:=O0;rw [oW.out] at xV ⊢;exact ⟨CBc.out.below aV CBc.out.lt,C7d.out,C8c.out.below aV C8c.out.lt,C9.out.below aV C9.out.lt,C2d.out,xV.out,⟨Z4 pW N.AU,Z4 pW N.yS,Z4 pW N.DU,Z4 pW N.QU,N.h0,N.h1,N.h2,N.h3,F9 _ _ _ _,F9 _ _ _ _⟩,F9 _ _ _ _⟩
 have hpk:=Uw d.out.ar m.nm (pt c.heap.size);have HX8:Hid (Ex (fun k=>k=f.mr) w C):=Q0 (dY.out.wm (aV.mono dY.out.size));have HFP:Hid (∀ k,Aw x k->w.heap.size<=k):=by
  have N:=HRW.out;intro k s;rw [oW.out] at s;rcases s with s | s | s | s
  · simp only [D_,Xf,Nk] at s
    rcases s with rfl | rfl | rfl | rfl | rfl | rfl | rfl | rfl | rfl | rfl
    all_goals first | omega | (have:=N.AU;omega) | (have:=N.yS;omega) | (have:=N.DU;omega) | (have:=N.QU;omega)
  · cases s
  · cases s
  cases s
 have HG1:Hid (Ab f { g with ow:=ext g.ow w.heap.size (.run g.rs.length),rs:=g.rs++[x],lr:=Ei (m.nm,pt c.heap.size) (g.lr.filter fun p=>!decide (p.1=m.nm)) } C):=by
  have h1:=d.out.ext w.heap.size P9 (.run g.rs.length);refine h1.new (x:=x) (by rw [oW.out];exact HNK.out) (HX8.out.mono fun k s e=>?_) (M6 HM7.out aV (Y6 HM7.out)) hpk.1 (fun n=>?_) HRU.out (fun k s=>Ik (HFP.out k s)) (by rw [oW.out]) (by rw [oW.out])
  · show ext g.ow w.heap.size _ k=_
    rw [N8 s,e];exact d.out.TR
  rw [hpk.2 n,oW.out]
 have HB8:Hid (Below f.base w C):=Q0 (HX8.out.below (fun k e=>by rw [e];exact d.out.FR _ _ d.out.TR) hsb);have a2S:Hid (∀ u,Below C.heap.size C u->X8 u f.base 1 g.rv (g.q.map (It.v g.ks))):=fun u hb=>by
  have h8:Below w.heap.size w C\/True:=.inr trivial;refine d.out.rd.keep fun k e hl=>?_;have hx:=HX8.out.block k hl (fun e2=>by
   have:=d.out.ord k e;rw [e2,d.out.TR] at this;cases this)
  exact (hb.block k (by have:=HX8.out.size;omega)).trans hx
 have hz8:F.heap.size<C.heap.size:=xV.out.lt;clear hw8 aV C2c C3c CBc C7c C8c C9 HRW dY HM7;refine R8 (S:=fun u=>Cl u w.heap.size 57 [pt f.kb]/\Cl u f.kb 98 (M_ f g.rv)) 10 U2 ?_ fun a=>?_
 · exact ⟨C2d.out,HG1.out.kb⟩
 obtain ⟨t,hy0⟩:∃ x:World,x=C.drew:=⟨_,rfl⟩;rw [<- hy0] at a ⊢;have hby:Below C.heap.size C t:=by rw [hy0];exact (F4 _ C).drew
 have NW:=Q0 hby
 have HGY:=Q0 (HG1.out.grow hby);have C7y:=Q0 (C7d.out.below hby C7d.out.lt);have mZ:=Q0 (C2d.out.below hby C2d.out.lt);have zy:C.heap.size<=t.heap.size:=hby.size;have zS:Hid (Below f.base w t):=Q0 (HB8.out.trans (hby.mono (by have:=d.out.sz;have:=HB8.out.size;omega)));clear hy0 hby
 refine lq 0 a ?_ (v:=?_) (hv:=?e)
 case e=>intro wq hSw;(try dsimp only at hSw);have D:wq.cell? ⟨w.heap.size,0,none⟩=some (.pointer (some ⟨f.kb,0,none⟩)):=hSw.1.cell 0;have d3:wq.cell? ⟨f.kb,4,none⟩=some g.rv:=hSw.2.cell 4;go_simp;try with_reducible rfl
 try simp only [qq]
 refine lq 1 a ?_ (v:=?_) (hv:=?e)
 case e=>intro wq hSw;(try dsimp only at hSw);have D:wq.cell? ⟨w.heap.size,0,none⟩=some (.pointer (some ⟨f.kb,0,none⟩)):=hSw.1.cell 0;have d3:wq.cell? ⟨f.kb,4,none⟩=some g.rv:=hSw.2.cell 4;go_simp;try with_reducible rfl
 try simp only [qq]
 refine lq 2 a ?_
 try simp only [qq]
 refine lq 3 a ?_
 try simp only [qq]
 refine lq 4 a ?_ (v:=?_) (hv:=?e)
 case e=>intro wq hSw;(try dsimp only at hSw);have D:wq.cell? ⟨w.heap.size,0,none⟩=some (.pointer (some ⟨f.kb,0,none⟩)):=hSw.1.cell 0;have d3:wq.cell? ⟨f.kb,4,none⟩=some g.rv:=hSw.2.cell 4;go_simp;try with_reducible rfl
 try simp only [qq]
 refine lq 5 a ?_
 try simp only [qq]
 refine lr (i:=6) (o:=⟨some 48,.buildSlice 96 1 #[(0,.tmp 47)],96,_,_,none⟩) rfl K3 U2 fun K H=>?_;go_simp;obtain ⟨y1,hy1⟩:∃ x:World,x=t.alloc (.cells #[.func (.func 87) #[] #[.pointer (some ⟨w.heap.size,0,none⟩),.pointer (some ⟨c.heap.size+1,0,none⟩),.pointer (some ⟨W.heap.size,0,none⟩),.pointer (some ⟨F.heap.size,0,none⟩)]] 1):=⟨_,rfl⟩;rw [<- hy1];have A:Below t.heap.size t y1:=by rw [hy1];exact bA
 have HIT:Hid (y1.cell? ⟨t.heap.size,0,none⟩=some x.k.be):=by show _=_;rw [hy1,oW.out];exact (U1 t [_] 1).cell 0
 have HGZ:=Q0 (HGY.out.grow A);have a2T:=Q0 (a2S.out y1 (bT NW.out A));have C2z:=Q0 (mZ.out.below A mZ.out.lt);have C7z:=Q0 (C7y.out.below A C7y.out.lt);clear hy1 a;refine Z6 H ?_ fun a=>?_
 · exact ⟨C2z.out,HGZ.out.kb⟩
 clear H K;refine lr (i:=7) (o:=⟨some 49,.call ⟨.builtin .append,#[.tmp 46,.tmp 48],#[96,96]⟩,96,_,_,none⟩) rfl K3 U2 fun K H=>?_;refine FK rfl _ _ 96 rfl f.base 1 underlying96 nN g.rv (g.q.map (It.v g.ks)) rfl a2T.out ⟨t.heap.size,0,none⟩ x.k.be rfl HIT.out rfl J4 HGZ.out.sz ?_;intro rv' y2 O2 g2 at2;have hro:∀ k,g.rv.ownBlock=some k->k<C.heap.size/\g.ow k=some .rd:=fun k e=>by
  obtain ⟨_,cur,Z⟩:=d.out.rd.lt e;have:=(Ha.1 Z).1;have:=HB8.out.size;exact ⟨O0,d.out.ord k e⟩
 have iT:Hid (Cl y2 f.kb 98 (M_ f g.rv)):=Q0 (HGZ.out.kb.gb g2 (fun e=>by
  have:=(hro f.kb e.symm).2;rw [d.out.BR] at this;cases this))
 have oU:Hid (Cl y2 (c.heap.size+1) 100 [pt c.heap.size]):=Q0 (C7z.out.gb g2 (fun e=>by
  obtain ⟨_,cur,Z⟩:=d.out.rd.lt e.symm;have:=(Ha.1 Z).1;omega))
 have a0X:Hid (Cl y2 w.heap.size 57 [pt f.kb]):=Q0 (C2z.out.gb g2 (fun e=>by
  obtain ⟨_,cur,Z⟩:=d.out.rd.lt e.symm;have:=(Ha.1 Z).1;omega))
 have NS:=Q0 O2;have U:=Q0 g2;have HA2:=Q0 at2;clear O2 g2 at2 a;refine Z6 H ?_ fun a=>?_
 · exact ⟨a0X.out,iT.out⟩
 clear H K;refine lr (i:=8) (o:=⟨some 50,.nilCheck (.tmp 42),0,_,_,none⟩) rfl K3 U2 fun K H=>?_;go_simp;clear a;refine Z6 H ?_ fun a=>?_
 · exact ⟨a0X.out,iT.out⟩
 clear H K;refine lq 9 a ?_
 try simp only [qq]
 refine lz (o:=⟨none,.store 96 (.tmp 51) (.tmp 49),0,_,_,none⟩) rfl U2 fun K H=>?_;have z4:y2.cell? ⟨f.kb,4,none⟩=some g.rv:=iT.out.cell 4;have zf:=iT.out.opn 4;obtain ⟨ra,rc,yU⟩:=NS.out.form;subst yU;go_simp;clear a;refine H.out _ _ ?_;clear H K
 try simp only [qq]
 refine l_ U2 ?_ _;have a0Y:c.heap.size+1≠f.kb:=by have:=d.out.kb.lt;omega
 have gV:=Q0 (iT.out.set 4 (.slice ra (g.q.length+1) rc));have a2U:=Q0 (oU.out.on (I6 y2 f.kb 4 (.slice ra (g.q.length+1) rc)) a0Y);have Q:=Q0 (I6 y2 f.kb 4 (.slice ra (g.q.length+1) rc));generalize (y2.setCell ⟨f.kb,4,none⟩ (.slice ra (g.q.length+1) rc))=y3 at*;have j0:y3.cell? ⟨c.heap.size+1,0,none⟩=some (.pointer (some ⟨c.heap.size,0,none⟩)):=a2U.out.cell 0;have HSF:Hid (Ab f { g with ow:=ext (ext g.ow w.heap.size (.run g.rs.length)) t.heap.size .rd,rs:=g.rs++[x],lr:=Ei (m.nm,pt c.heap.size) (g.lr.filter fun p=>!decide (p.1=m.nm)),q:=g.q++[.go g.rs.length],rv:=.slice ra (g.q.length+1) rc } y3):=by
  have h1:=HGY.out.ext t.heap.size P9 .rd;have hks:((g.rs++[x]).map (·.k)).getD g.rs.length Kj=x.k:=by simp [List.getD]
  have a2V:∀ it∈g.q,It.v ((g.rs++[x]).map (·.k)) it=It.v g.ks it:=fun it O=>by
   cases it with
   | go i=>have hq':i<g.rs.length:=d.out.JR _ O;show Rk.be _=Rk.be _;rw [lu hq'];rfl
   | re=>rfl
  have hmap:(g.q++[It.go g.rs.length]).map (It.v ((g.rs++[x]).map (·.k)))=g.q.map (It.v g.ks)++[x.k.be]:=by
   rw [mf,Bo a2V];show _++[Rk.be _]=_;rw [hks]
  have hrow:∀ k,(Value.slice ra (g.q.length+1) rc).ownBlock=some k->ext (ext g.ow w.heap.size (.run g.rs.length)) t.heap.size .rd k=some .rd:=fun k e=>by
   have e':(Value.slice ra ((List.map (It.v g.ks) g.q++[x.k.be]).length) rc).ownBlock=some k:=by cases ra with | none=>cases e | some ad=>exact e
   rcases HA2.out with h | h
   · rw [h] at e'
     obtain ⟨h1,h2⟩:=hro k e';have hkw:k<w.heap.size:=by obtain ⟨_,cur,Z⟩:=d.out.rd.lt e';exact (Ha.1 Z).1
     rw [N8 O0,N8 hkw,h2]
   rw [h] at e';have e':=j6 e';have:=A.size;exact Ik O0
  have hwf:=Z4 A.size U.out.size;have hex:Ex (fun k=>ext (ext g.ow w.heap.size (.run g.rs.length)) t.heap.size .rd k=some .kb\/ext (ext g.ow w.heap.size (.run g.rs.length)) t.heap.size .rd k=some .rd) t y3:=by
   refine ⟨Q.out.os.trans (U.out.os.trans A.os),Q.out.tape.trans (U.out.tape.trans A.tape),Q.out.output.trans (U.out.output.trans A.output),by rw [Q.out.size];exact hwf,fun k s hn=>?_⟩;have hkk:k≠f.kb:=fun e=>hn (.inl (by rw [N8 s,e,N8 d.out.kb.lt];exact d.out.BR));have hkr:some k≠g.rv.ownBlock:=fun e=>hn (.inr (by
    obtain ⟨_,h2⟩:=hro k e.symm;have hkw:k<w.heap.size:=by obtain ⟨_,cur,Z⟩:=d.out.rd.lt e.symm;exact (Ha.1 Z).1
    rw [N8 s,N8 hkw,h2]))
   exact (Q.out.block k hkk).trans ((U.out.block k (by have:=A.size;omega) hkr).trans (A.block k s))
  refine h1.fP (rv':=.slice ra (g.q.length+1) rc) (q':=g.q++[.go g.rs.length]) hex gV.out ?_ hrow (fun it O=>?_) fun it O=>?_
  · show X8 y3 f.base 1 _ ((g.q++[It.go g.rs.length]).map (It.v ((g.rs++[x]).map (·.k))))
    rw [hmap];have e1:(List.map (It.v g.ks) g.q++[x.k.be]).length=g.q.length+1:=X0;have hO:=NS.out;rw [e1] at hO;refine hO.keep fun k e hl=>Q.out.block k fun e2=>?_;have:=hrow k e;rw [e2] at this;rw [N8 (by have:=d.out.kb.lt;omega),N8 d.out.kb.lt,d.out.BR] at this;cases this
  · rcases P8.1 O with O | O
    · obtain ⟨k1,k2⟩:=h1.its it O
      refine ⟨?_,k2⟩
      cases it with
      | go i=>trivial
      | re i r b7 b5=>
       have g1:∀ k,k<t.heap.size->ext (ext g.ow w.heap.size (.run g.rs.length)) t.heap.size .rd k=none->y3.heap[k]?=t.heap[k]?:=fun k s P=>hex.block k s (by rw [P];simp);exact ⟨(g1 _ k1.1.lt k2.1).trans k1.1,(g1 _ k1.2.lt k2.2).trans k1.2⟩
    obtain rfl:=R9.1 O;exact ⟨trivial,trivial⟩
  show it.i<(g.rs++[x]).length;rw [Q7];rcases P8.1 O with O | O
  · have:=d.out.JR it O;omega
  obtain rfl:=R9.1 O;show g.rs.length<_;simp
 have HBF:Hid (Below f.base w y3):=Q0 (zS.out.trans ⟨Q.out.os.trans (U.out.os.trans A.os),Q.out.tape.trans (U.out.tape.trans A.tape),Q.out.output.trans (U.out.output.trans A.output),by rw [Q.out.size];exact Z4 A.size U.out.size,fun k s=>by
  have hk0:k<t.heap.size:=by have:=zS.out.size;omega
  have hkk:k≠f.kb:=fun e=>by have:=d.out.FR _ _ d.out.BR;omega
  have hkr:some k≠g.rv.ownBlock:=fun e=>by have:=d.out.FR _ _ (hro k e.symm).2;omega
  exact (Q.out.block k hkk).trans ((U.out.block k (by have:=A.size;omega) hkr).trans (A.block k hk0))⟩)
 have kT:Hid (∀ k,k<w.heap.size->g.ow k=none->y3.heap[k]?=w.heap[k]?):=fun k s P=>by
  have hk8:=D7 s HX8.out.size;have hkk:k≠f.kb:=fun e=>by rw [e,d.out.BR] at P;cases P
  have hkr:some k≠g.rv.ownBlock:=fun e=>by rw [(hro k e.symm).2] at P;cases P
  have hkm:k≠f.mr:=fun e=>by rw [e,d.out.TR] at P;cases P
  exact (Q.out.block k hkk).trans ((U.out.block k (by have:=A.size;omega) hkr).trans ((A.block k O0).trans ((NW.out.block k hk8).trans (HX8.out.block k s hkm))))
 have oZ:Hid (x.k.m=m/\x.ls=[]/\x.st=false/\x.wl=[]/\x.qR=.yR/\x.r=⟨6,⟨#[]⟩⟩/\x.k.B=c.heap.size):=by show _/\_;rw [oW.out];exact ⟨rfl,rfl,rfl,rfl,rfl,rfl,rfl⟩
 have PU:Hid (∀ (j:Nat) y,g.rs[j]?=some y->y.k.m.nm≠m.nm):=fun j y hy e=>by
  have:=d.out.key j y hy;rw [e,HNK.out] at this;cases this
 clear hro A Q gV iT HGZ HGY NS U HA2 a0Y;go_wp2;go_ret;exact ⟨_,g.rs.length,x,by rw [oZ.out.2.2.2.2.2.2];rfl,HSF.out,.inr ⟨rfl,PU.out,rfl,rfl,oZ.out.1,oZ.out.2.1,oZ.out.2.2.1,oZ.out.2.2.2.1,oZ.out.2.2.2.2.1,oZ.out.2.2.2.2.2.1⟩,X0,HBF.out,fun k s P=>⟨kT.out k s P,by show ext (ext g.ow w.heap.size _) t.heap.size .rd k=none;rw [N8 O0,N8 s];exact P⟩⟩
end Go.Proofs.YtdjaajjndfbpmaaGreatDoor
namespace Go.Proofs.YtdjaajjndfbpmaaGreatDoor
open Proofs.Tryz
open Go.RowKit
open G (H6)
open G.T (F2 P6 X3 F3)
variable {u u' w:World} {B base i j k kb n:Nat} {f:Fx} {g:Gh} {rv' v:Value} {x x' y:Ru} {t:TN} {s:RS} {it:It} {l rs2:List Ru} {E:Env} {ac:Option Nat} {its q':List It}
theorem ZG {b:Nat} {l:List (ByteArray×Value)} {k:ByteArray} (h:w.ownsMap prog 9 X9 b n (mapD l)) (a:k.size<=maxLen):(Instr.lookup 95 (.map (some b)) (.string k) false).run prog w=.ok ((G_ l k).getD (.slice none 0 0)) w:=BK h underlying95 (zeroValue190 w) a
def U8 (ow:Nat->Option Ow) (n:Nat) (k:Nat):Option Ow:=if k<n then ow k else none
theorem Q5 {ow:Nat->Option Ow} (h:k<n):U8 ow n k=ow k:=Y3 h
theorem Q9 {ow:Nat->Option Ow} (h:n<=k):U8 ow n k=none:=R3 O0
theorem Ab.U8 (h:Ab f g w) (n:Nat) (hn:w.heap.size<=n):Ab f { g with ow:=U8 g.ow n } w:=
 h.iK _ (fun k hk=>Q5 O0) (fun k a e=>by
  rcases U5 k n with h1 | h1
  · rw [Q5 h1] at e;exact h.FR k a e
  rw [Q9 h1] at e;cases e)
theorem Wm {e:TypeId} {xs:List Value} (h:w.ownsRow base e 1 v n xs):∃ a c,v=.slice a n c/\∀ j u,xs[j]?=some u->∃ g,a=some ⟨g,0,none⟩/\w.cell? ⟨g,j,none⟩=some u:=by
 have b:=h;rcases h.2 with ⟨hv,h0⟩ | ⟨g,cap,cur,hv,_⟩
 · refine ⟨none,0,by rw [hv,h0],fun j u e=>?_⟩
   have:=h.1;have d:=(Jd.1 e).1;omega
 refine ⟨some ⟨g,0,none⟩,cap,hv,fun j u e=>⟨g,rfl,?_⟩⟩;subst hv;have d:=(Jd.1 e).1;rw [b.cellAt j (by have:=b.1;omega)];exact e
theorem ic.tK (h:ic base kb x t s u) (ho:kr x.k.B u u') (o:Cl u' x.k.B 103 x'.cells) (c:x'.k=x.k) (w:x'.ls=x.ls) (r:x'.lv=x.lv) (q:x'.v1=x.v1) (p:x'.v2=x.v2):ic base kb x' t s u':=by
 have a:∀ {b:Nat} {t:TypeId} {xs:Array Value},u.heap[b]?=some (.cells xs t (0,0))->t≠103->u'.heap[b]?=some (.cells xs t (0,0)):=fun i j=>(ho.block _ (J6 i h.hB j)).trans i;have d:∀ {e:TypeId} {size n:Nat} {v:Value} {xs:List Value},u.ownsRow base e size v n xs->e≠103->u'.ownsRow base e size v n xs:=fun f m=>Z0 f fun k l=>by
  obtain ⟨_,cur,g⟩:=Y2 f l;rw [a g m,g]
 refine ⟨by rw [c];exact o,by rw [c];exact a h.h7 K3,by rw [c];exact a h.h8 K3,by rw [c];exact a h.h9 K3,by rw [c];exact a h.h2 K3,by rw [c];exact a h.h10 K3,?_,by rw [w,r];exact d h.lk K3⟩;rw [c,q,p];exact ⟨h.rw.AU,h.rw.yS,h.rw.DU,h.rw.QU,a h.rw.h0 K3,a h.rw.h1 K3,a h.rw.h2 K3,a h.rw.h3 K3,d h.rw.o1 K3,d h.rw.o2 K3⟩
theorem Aw.of (d:x'.k=x.k) (c:x'.lv=x.lv) (b:x'.v1=x.v1) (a:x'.v2=x.v2) (h:Aw x' k):Aw x k:=by
 unfold Aw at h ⊢;rw [d,c,b,a] at h;exact h
theorem kr.ex {S:Nat->Prop} (h:kr B u u') (hB:S B):Ex S u u':=⟨h.os,h.tape,h.output,Nat.le_of_eq h.size.symm,fun k _ a=>h.block k (fun e=>a (by rw [e];exact hB))⟩
theorem aH {a s p j:World} (h:Ab f g a) (l:Below a.heap.size a s) (J:X8 p f.base 1 rv' (g.q.map (It.v g.ks)++[it.v g.ks])) (o:s.grownBy p g.rv.ownBlock) (I:rv'.ownBlock=g.rv.ownBlock\/rv'.ownBlock=some s.heap.size) (m:kr f.kb p j) (C:Cl j f.kb 98 (M_ f rv')) (D:it.At g.ks a/\it.own g.ow) (E:it.i<g.rs.length):
 Ab f { g with ow:=ext g.ow a.heap.size .rd,q:=g.q++[it],rv:=rv' } j/\Below f.base a j/\∀ k,k<a.heap.size->g.ow k=none->j.heap[k]?=a.heap[k]?:=by
 have x:∀ k,g.rv.ownBlock=some k->k<a.heap.size/\g.ow k=some .rd:=fun k e=>by
  obtain ⟨_,cur,H⟩:=h.rd.lt e;exact ⟨(Ha.1 H).1,h.ord k e⟩
 have h1:=h.ext a.heap.size P9 .rd;have w:∀ k,rv'.ownBlock=some k->ext g.ow a.heap.size .rd k=some .rd:=fun k e=>by
  rcases I with h | h
  · rw [h] at e
    obtain ⟨h1,h2⟩:=x k e;rw [N8 h1,h2]
  rw [h] at e;have e:=j6 e;have:=l.size;exact Ik O0
 have z:=Z4 l.size o.size;have u:Ex (fun k=>ext g.ow a.heap.size .rd k=some .kb\/ext g.ow a.heap.size .rd k=some .rd) a j:=by
  refine ⟨m.os.trans (o.os.trans l.os),m.tape.trans (o.tape.trans l.tape),m.output.trans (o.output.trans l.output),by rw [m.size];exact z,fun k n y=>?_⟩;have B:k≠f.kb:=fun e=>y (.inl (by rw [N8 n,e];exact h.BR));have A:some k≠g.rv.ownBlock:=fun e=>y (.inr (by rw [N8 n,(x k e.symm).2]));exact (m.block k B).trans ((o.block k (by have:=l.size;omega) A).trans (l.block k n))
 have t:∀ k,k<a.heap.size->g.ow k=none->j.heap[k]?=a.heap[k]?:=fun k n F=>u.block k n (by rw [N8 n,F];simp);refine ⟨h1.fP (rv':=rv') (q':=g.q++[it]) u C ?_ w (fun b c=>?_) (fun b c=>?_),u.below (fun k e=>?_) h.sz,t⟩
 · show X8 j f.base 1 _ ((g.q++[it]).map (It.v g.ks))
   rw [mf];refine J.keep fun k e hl=>m.block k fun K=>?_;have:=w k e;rw [K,N8 h.kb.lt,h.BR] at this;cases this
 · have key:∀ b:It,b.At g.ks a/\b.own g.ow->b.At g.ks j/\b.own (ext g.ow a.heap.size .rd):=fun b d=>by
    cases b with
    | go i=>exact ⟨trivial,trivial⟩
    | re i r b7 b5=>exact ⟨⟨(t _ d.1.1.lt d.2.1).trans d.1.1,(t _ d.1.2.lt d.2.2).trans d.1.2⟩,⟨(N8 d.1.1.lt).trans d.2.1,(N8 d.1.2.lt).trans d.2.2⟩⟩
   rcases P8.1 c with c | c
   · exact key b (h.its b c)
   obtain rfl:=R9.1 c;exact key _ D
 · rcases P8.1 c with c | c
   · exact h.JR b c
   obtain rfl:=R9.1 c;exact E
 rcases e with e | e <;> exact h1.FR k _ e
theorem c85 (f:Fx) (g:Gh) (i:Nat) (x:Ru) (r:R2) (w:World) (t:Ab f g w) (C:g.rs[i]?=some x) (hq:g.q.length+x.wl.length<=1000) (hm:x.k.m.nm.size<=20):
 Calls prog 85 #[pt f.kb,pt x.k.B,.agg #[.int .i64 r.code,.string r.tx]] w fun e w'=>e=.returned (.tuple #[])/\∃ (its:List It) (rv':Value) (b:Nat->Option Ow),Ab f { g with rs:=g.rs.set i { x with r:=r },q:=g.q++its,rv:=rv',ow:=b } w'/\its.map It.i=x.wl/\(∀ it∈its,∃ j b7 b5,it=.re j r b7 b5)/\Below f.base w w'/\∀ k,k<w.heap.size->g.ow k=none->w'.heap[k]?=w.heap[k]?/\b k=none:=by
 have hnl:x.k.m.nm.size<=maxLen:=by unfold maxLen;omega
 have p:=Q0 t;have d:=Q0 C;obtain ⟨Z,wc,hwv,hwc⟩:=Wm (t.wr i x C);have HWV:Hid ((G_ g.lw x.k.m.nm).getD (.slice none 0 0)=.slice Z x.wl.length wc):=Q0 ((t.kw i x C).trans hwv);obtain ⟨w1,P⟩:∃ u:World,u=w.alloc (.cells #[.int .i64 r.code,.string r.tx] 34):=⟨_,rfl⟩;have HW1:=Q0 P;have J:Below w.heap.size w w1:=by rw [P];exact bA
 have Y:Hid (Cl w1 w.heap.size 34 [.int .i64 r.code,.string r.tx]):=by show Cl _ _ _ _;rw [P];exact U1 w _ 34
 have L:=Q0 (((t.U8 w.heap.size P9).grow J));have D:=Q0 ((t.ru i x C).hB.below J (t.ru i x C).hB.lt);have HXW:=Q0 hwv;clear t C hwv hwc P;have d6:w1.cell? ⟨x.k.B,6,none⟩=some (.int .i64 x.r.code):=D.out.cell 6;have d7:w1.cell? ⟨x.k.B,7,none⟩=some (.string x.r.tx):=D.out.cell 7;have e6:=D.out.opn 6;have e7:=D.out.opn 7;have r0:w1.cell? ⟨w.heap.size,0,none⟩=some (.int .i64 r.code):=Y.out.cell 0;have r1:w1.cell? ⟨w.heap.size,1,none⟩=some (.string r.tx):=Y.out.cell 1;go_enter func85,ntmps85;rw [show pt f.kb=.pointer (some ⟨f.kb,0,none⟩) from rfl,show pt x.k.B=.pointer (some ⟨x.k.B,0,none⟩) from rfl]
 go_upto_region 1 with fail
 rw [<- HW1.out]
 go_upto_region 2 with fail
 have hne:w.heap.size≠x.k.B:=by have:=(p.out.ru i x d.out).hB.lt;omega
 have A:=(I6 w1 x.k.B 6 (.int .i64 r.code)).trans (I6 _ x.k.B 7 (.string r.tx));have F:Cl ((w1.setCell ⟨x.k.B,6,none⟩ (.int .i64 r.code)).setCell ⟨x.k.B,7,none⟩ (.string r.tx)) x.k.B 103 ({ x with r:=r }:Ru).cells:=(D.out.set 6 (.int .i64 r.code)).set 7 (.string r.tx);generalize ((w1.setCell ⟨x.k.B,6,none⟩ (.int .i64 r.code)).setCell ⟨x.k.B,7,none⟩ (.string r.tx))=s at*;have K:Hid (Ab f { g with ow:=U8 g.ow w.heap.size,rs:=g.rs.set i { x with r:=r } } s):=by
  have uT:=L.out.ru i x d.out;refine L.out.run (x':={ x with r:=r }) d.out (A.ex (S:=fun k=>U8 g.ow w.heap.size k=some (.run i)) (L.out.ER i x d.out _ (.inl X0))) (uT.tK A F rfl rfl rfl rfl rfl) (fun k l=>L.out.ER i x d.out k (Aw.of rfl rfl rfl rfl l)) rfl rfl rfl
 have X:=Q0 (Y.out.on A hne);have kT:Hid (∀ k,k<w.heap.size->g.ow k=none->s.heap[k]?=w.heap[k]?):=fun k l y=>(A.block k (fun e=>by rw [e,p.out.ER i x d.out _ (.inl X0)] at y;cases y)).trans (J.block k l);have HBL:Hid (Below f.base w s):=Q0 ((J.mono p.out.sz).trans (A.below (by exact p.out.FR _ _ (p.out.ER i x d.out _ (.inl X0)))));clear d6 d7 e6 e7 r0 r1 A F D Y L J HW1;refine F7 (S:=fun u=>Cl u f.kb 98 (M_ f g.rv)/\Cl u x.k.B 103 ({ x with r:=r }:Ru).cells/\u.ownsMap prog 9 X9 f.mw g.lw.length (mapD g.lw)) U2 ?_ fun c=>?_
 · exact ⟨K.out.kb,(K.out.ru i _ (xh d.out)).hB,K.out.mw⟩
 refine tq 0 c ?_;refine tq 1 c ?_;refine tq 2 c ?_;refine tq 3 c ?_ (v:=?_) (hv:=?e)
 case e=>intro wq hSw;(try dsimp only at hSw);obtain ⟨s1,s2,s3⟩:=hSw;have d1:wq.cell? ⟨f.kb,3,none⟩=some (.map (some f.mw)):=s1.cell 3;have d2:wq.cell? ⟨x.k.B,0,none⟩=some (.string x.k.m.nm):=s2.cell 0;go_simp;try with_reducible rfl
 refine tq 4 c ?_;refine tq 5 c ?_;refine tq 6 c ?_;refine tq 7 c ?_;refine tq 8 c ?_ (v:=?_) (hv:=?e)
 case e=>intro wq hSw;(try dsimp only at hSw);obtain ⟨s1,s2,s3⟩:=hSw;have d1:wq.cell? ⟨f.kb,3,none⟩=some (.map (some f.mw)):=s1.cell 3;have d2:wq.cell? ⟨x.k.B,0,none⟩=some (.string x.k.m.nm):=s2.cell 0;go_simp;try with_reducible rfl
 try simp only [qq]
 refine tk (i:=9) (oi:=⟨some 22,.lookup 95 (.tmp 16) (.tmp 21) false,190,_,_,none⟩) (v:=.slice Z x.wl.length wc) rfl U2 rfl ?e c ?_
 case e=>intro wq hSw;exact Yv 95 _ _ false rfl (v:=.map (some f.mw)) (z:=.string x.k.m.nm) rfl rfl ((ZG hSw.2.2 hnl).trans (by rw [HWV.out]))
 refine tq 10 c ?_;refine I4 11 c ?_;refine a_ ?_;obtain ⟨x2,hx2⟩:∃ x:World,x=s.drew:=⟨_,rfl⟩;rw [<- hx2];have H:Below s.heap.size s x2:=by rw [hx2];exact (F4 _ s).drew
 have HSB:=Q0 (K.out.grow H);have C5c:=Q0 (X.out.below H X.out.lt);have a2W:=Q0 (HBL.out.trans (H.mono (by have:=HBL.out.size;have:=p.out.sz;omega)));have a2X:Hid (∀ k,k<w.heap.size->g.ow k=none->x2.heap[k]?=w.heap[k]?/\U8 g.ow w.heap.size k=none):=fun k l y=>⟨(H.block k (D7 l (Nat.le_of_lt (Nat.lt_of_le_of_lt P9 X.out.lt)))).trans (kT.out k l y),(Q5 l).trans y⟩;clear hx2 H K X HBL kT c
 go_wp2_with fail
 go_loopw [24] (fun v24 wr=>∃ (k:Nat) (its:List It) (rv':Value) (b:Nat->Option Ow),v24=.int .i64 k/\k<=x.wl.length/\Hid (Ab f { g with rs:=g.rs.set i { x with r:=r },q:=g.q++its,rv:=rv',ow:=b } wr)/\Hid (its.map It.i=x.wl.take k)/\Hid (∀ it∈its,∃ j b7 b5,it=.re j r b7 b5)/\Hid (Cl wr w.heap.size 34 [.int .i64 r.code,.string r.tx])/\Hid (b w.heap.size=none)/\Hid (Below f.base w wr)/\Hid (∀ k,k<w.heap.size->g.ow k=none->wr.heap[k]?=w.heap[k]?/\b k=none)) (fun v24 _=>x.wl.length - (intOf v24).toNat)
 case atStart=>exact ⟨0,[],g.rv,U8 g.ow w.heap.size,rfl,I5 _,by rw [Xj];exact HSB.out,rfl,(fun it h=>by cases h),C5c.out,Q9 P9,a2W.out,a2X.out⟩
 obtain ⟨k,its,rv',b,rfl,l,KZ,V,HRE,xU,LW,HBR,HKR⟩:=hrel;by_cases hlt:k<x.wl.length;rotate_left
 · obtain rfl:k=x.wl.length:=O0
   rw [Fv] at V;go_wp2
   go_end0
   exact ⟨rfl,its,rv',b,KZ.out,V.out,HRE.out,HBR.out,HKR.out⟩
 obtain ⟨j,Q⟩:∃ j,x.wl[k]?=some j:=⟨_,F8 hlt⟩;have HJ:=Q0 Q;have hjl:=p.out.lS i x d.out j (su Q);have qZ:(g.rs.set i { x with r:=r }).map (·.k)=g.ks:=Xu d.out rfl;have HKS:=Q0 qZ;obtain ⟨wa2,wc2,hw2,F⟩:=Wm (KZ.out.wr i _ (xh d.out));obtain ⟨gw,hgw,hcell⟩:=F k ((g.ks.getD j Kj).go) (by
  show (x.wl.map fun j=>(((g.rs.set i { x with r:=r }).map (·.k)).getD j Kj).go)[k]?=_;rw [qZ,Kb,Q];rfl)
 have a2Y:Z=wa2:=by
  have h1:x.wv=.slice wa2 x.wl.length wc2:=hw2;rw [HXW.out] at h1;injection h1
 subst hgw;subst a2Y;have hcell':wr.cell? ⟨gw,k,none⟩=some (.func (.func 84) #[] #[.pointer (some ⟨(g.ks.getD j Kj).c5,0,none⟩),.pointer (some ⟨(g.ks.getD j Kj).pR,0,none⟩),.pointer (some ⟨(g.ks.getD j Kj).wR,0,none⟩),.pointer (some ⟨(g.ks.getD j Kj).c2,0,none⟩),.pointer (some ⟨(g.ks.getD j Kj).uR,0,none⟩)]):=hcell;clear Q hw2 F hcell qZ;obtain ⟨n,HKK⟩:∃ n,Hid (g.ks.getD j Kj=n):=⟨_,rfl⟩;rw [HKK.out] at hcell';have hlt':(k:Int)<x.wl.length:=O0
 go_upto_region 5 with fail
 obtain ⟨a,O⟩:∃ u:World,u=wr.alloc (.cells #[.func (.func 84) #[] #[.pointer (some ⟨n.c5,0,none⟩),.pointer (some ⟨n.pR,0,none⟩),.pointer (some ⟨n.wR,0,none⟩),.pointer (some ⟨n.c2,0,none⟩),.pointer (some ⟨n.uR,0,none⟩)]] 151):=⟨_,rfl⟩;rw [<- O];have I:Below wr.heap.size wr a:=by rw [O];exact bA
 have C7:Hid (Cl a wr.heap.size 151 [n.go]):=by show Cl _ _ _ _;rw [O];exact U1 wr _ 151
 have o:Hid (Ab f { g with rs:=g.rs.set i { x with r:=r },q:=g.q++its,rv:=rv',ow:=U8 b wr.heap.size } a):=Q0 ((KZ.out.U8 wr.heap.size P9).grow I);have rZ:=Q0 (xU.out.below I xU.out.lt);have NR:=Q0 (HBR.out.trans (I.mono (by have:=HBR.out.size;have:=p.out.sz;omega)));have d4:a.cell? ⟨f.kb,4,none⟩=some rv':=o.out.kb.cell 4;have a0Z:Hid ((a.alloc (.cells #[.func (.func 121) #[] #[.pointer (some ⟨wr.heap.size,0,none⟩),.pointer (some ⟨w.heap.size,0,none⟩)]] 1)).cell? ⟨a.heap.size,0,none⟩=some (.func (.func 121) #[] #[pt wr.heap.size,pt w.heap.size])):=Q0 ((U1 a [_] 1).cell 0);have W:Hid (Below a.heap.size a (a.alloc (.cells #[.func (.func 121) #[] #[.pointer (some ⟨wr.heap.size,0,none⟩),.pointer (some ⟨w.heap.size,0,none⟩)]] 1))):=Q0 bA;have zT:its.length=k:=by have:=V3 List.length V.out;simpa [Nat.min_eq_left l] using this
 have HOF:=Q0 (o.out.rd.keep (w':=a.alloc (.cells #[.func (.func 121) #[] #[.pointer (some ⟨wr.heap.size,0,none⟩),.pointer (some ⟨w.heap.size,0,none⟩)]] 1)) fun q _ hl=>W.out.block q hl);have UX:Hid (((g.q++its).map (It.v ((g.rs.set i { x with r:=r }).map (·.k)))).length<=1000000):=by show _<=_;simp;omega
 have a2Z:=Q0 I;clear O I hcell' zT
 go_wp2_with (refine fM rfl _ _ 96 rfl f.base 1 underlying96 nN rv' _ rfl HOF.out ⟨a.heap.size,0,none⟩ (.func (.func 121) #[] #[pt wr.heap.size,pt w.heap.size]) rfl a0Z.out rfl UX.out (by have:=o.out.sz;simp;omega) ?_;intro v5 E O5 g5 at5;obtain ⟨ra,rc,hv5⟩:=O5.form;subst hv5;have a3a:=Q0 O5;have bX:=Q0 g5;have HA5:=Q0 at5;have sZ:=Q0 ((o.out.kb.below W.out o.out.kb.lt).gb g5 (fun e=>by have:=o.out.ord _ e.symm;rw [o.out.BR] at this;cases this));have z4:E.cell? ⟨f.kb,4,none⟩=some rv':=sZ.out.cell 4;have zf:E.frozen? ⟨f.kb,4,none⟩=false:=sZ.out.opn 4;clear O5 g5 at5 d4)
 have e1:((g.q++its).map (It.v ((g.rs.set i { x with r:=r }).map (·.k)))++[Value.func (.func 121) #[] #[pt wr.heap.size,pt w.heap.size]]).length=g.q.length+(its.length+1):=X0;have R:=a3a.out;have U:=HA5.out;change X8 E f.base 1 (.slice ra ((g.q++its).map (It.v ((g.rs.set i { x with r:=r }).map (·.k)))++[Value.func (.func 121) #[] #[pt wr.heap.size,pt w.heap.size]]).length rc) ((g.q++its).map (It.v ((g.rs.set i { x with r:=r }).map (·.k)))++[Value.func (.func 121) #[] #[pt wr.heap.size,pt w.heap.size]]) at R;change (Value.slice ra ((g.q++its).map (It.v ((g.rs.set i { x with r:=r }).map (·.k)))++[Value.func (.func 121) #[] #[pt wr.heap.size,pt w.heap.size]]).length rc).ownBlock=_\/(Value.slice ra ((g.q++its).map (It.v ((g.rs.set i { x with r:=r }).map (·.k)))++[Value.func (.func 121) #[] #[pt wr.heap.size,pt w.heap.size]]).length rc).ownBlock=_ at U;rw [e1] at R U;have XR:w.heap.size<wr.heap.size:=xU.out.lt;have N:=Q0 (aH (it:=.re j r wr.heap.size w.heap.size) (rv':=.slice ra (g.q.length+(its.length+1)) rc) o.out W.out R bX.out U (I6 E f.kb 4 (.slice ra (g.q.length+(its.length+1)) rc)) (sZ.out.set 4 _) ⟨⟨by show Cl a wr.heap.size 151 [(((g.rs.set i { x with r:=r }).map (·.k)).getD j Kj).go];rw [HKS.out,HKK.out];exact C7.out,rZ.out⟩,Q9 P9,(Q5 XR).trans LW.out⟩ (by show j<(g.rs.set i _).length;rw [Ed];exact hjl));generalize (E.setCell ⟨f.kb,4,none⟩ (.slice ra (g.q.length+(its.length+1)) rc))=w6 at*;have a3b:Hid ((its++[It.re j r wr.heap.size w.heap.size]).map It.i=x.wl.take (k+1)):=by
  show _=_;rw [mf,V.out,List.take_add_one,HJ.out];rfl
 have a3c:Hid (∀ it∈its++[It.re j r wr.heap.size w.heap.size],∃ j b7 b5,it=.re j r b7 b5):=fun it h=>by
  rcases P8.1 h with h | h
  · exact HRE.out it h
  exact ⟨_,_,_,R9.1 h⟩
 have ES:wr.heap.size<a.heap.size:=C7.out.lt;have a3d:Hid (Cl w6 w.heap.size 34 [.int .i64 r.code,.string r.tx]):=Q0 ((N.out.2.2 w.heap.size rZ.out.lt (by show U8 b wr.heap.size w.heap.size=none;rw [Q5 XR];exact LW.out)).trans rZ.out);have fU:=Q0 (NR.out.trans N.out.2.1);have gU:Hid (Ab f { g with rs:=g.rs.set i { x with r:=r },q:=g.q++(its++[It.re j r wr.heap.size w.heap.size]),rv:=.slice ra (g.q.length+(its.length+1)) rc,ow:=ext (U8 b wr.heap.size) a.heap.size .rd } w6):=by
  have:=N.out.1;show Ab _ _ _;rw [<- y_];exact this
 have mY:Hid (ext (U8 b wr.heap.size) a.heap.size .rd w.heap.size=none):=by show _=_;rw [N8 O0,Q5 XR];exact LW.out
 have HK6:Hid (∀ q,q<w.heap.size->g.ow q=none->w6.heap[q]?=w.heap[q]?/\ext (U8 b wr.heap.size) a.heap.size .rd q=none):=fun q hq y=>by
  obtain ⟨h1,h2⟩:=HKR.out q hq y;have hx:U8 b wr.heap.size q=none:=(Q5 O0).trans h2;exact ⟨(N.out.2.2 q O0 hx).trans ((a2Z.out.block q O0).trans h1),(N8 O0).trans hx⟩
 clear N R U e1 HOF a0Z W;go_roundw
 case rel=>exact ⟨k+1,its++[It.re j r wr.heap.size w.heap.size],_,_,by go_num,O0,gU.out,a3b.out,a3c.out,a3d.out,mY.out,fU.out,HK6.out⟩
 case measure=>simp [intOf];omega
structure og (E:Env) (g:Gh) (ac:Option Nat):Prop where
 mem:∀ (i:Nat) x,g.rs[i]?=some x->x.k.m∈E.ms
 inj:∀ (i j:Nat) x y,g.rs[i]?=some x->g.rs[j]?=some y->x.k.m.nm=y.k.m.nm->i=j
 his:∀ (i:Nat) x,g.rs[i]?=some x->I9 E x.k.m x.ls
 fin:∀ (i:Nat) x,g.rs[i]?=some x->x.qR=.fin->((tn x.k.m x.ls).over=true/\x.wt=⟨#[]⟩)/\x.r=Pj (tn x.k.m x.ls)
 non:∀ (i:Nat) x,g.rs[i]?=some x->x.qR≠.fin->(tn x.k.m x.ls).over=false/\x.r=⟨6,⟨#[]⟩⟩
 act:∀ (i:Nat) x,g.rs[i]?=some x->(x.qR=.act↔ac=some i)
 yR:∀ (i:Nat) x,g.rs[i]?=some x->(x.qR=.yR↔i∈g.q.map It.i)
 bS:(g.q.map It.i).Nodup
 nS:∀ i,It.go i∈g.q->∀ x,g.rs[i]?=some x->x.st=false
 sS:∀ i r b7 b5,It.re i r b7 b5∈g.q->∀ x,g.rs[i]?=some x->Zy E (tn x.k.m x.ls) r
 vR:∀ (i:Nat) x j,g.rs[i]?=some x->x.qR=.vR j->((tn x.k.m x.ls).has=false/\x.wt=(tn x.k.m x.ls).name)/\E.pl (tn x.k.m x.ls).name=none/\∃ y,g.rs[j]?=some y/\y.qR≠.fin/\y.k.m.nm=(tn x.k.m x.ls).name
 WR:∀ (j:Nat) y,g.rs[j]?=some y->y.qR≠.fin->y.wl.Nodup/\∀ i,i∈y.wl↔∃ x,g.rs[i]?=some x/\x.qR=.vR j
def Xk (x:Ru):Nat:=40 - x.ls.length - (if x.st then 1 else 0)
def Cg (g:Gh):Nat:=(g.rs.map Xk).sum+41*(30 - g.rs.length)
theorem qi (h:l[i]?=some x):((l.set i x').map Xk).sum+Xk x=(l.map Xk).sum+Xk x':=by
 induction l generalizing i with
 | nil=>simp at h
 | cons y r ih=>
  cases i with
  | zero=>simp at h;subst h;simp;omega
  | succ i=>
   have:=ih (i:=i) (by simpa using h);simp at this ⊢;omega
theorem og.len (h:og E g ac) (he:E.ms.length<=30):g.rs.length<=30:=by
 have h1:(g.rs.map (·.k.m.nm)).Nodup:=by
  rw [OE,gu];intro i j a b hij e;simp at a b e;have:=h.inj i j _ _ (F8 a) (F8 b) e;omega
 have:=Ef h1 (l':=E.ms.map (·.nm)) (fun n c=>by
  obtain ⟨x,hx,rfl⟩:=D9.1 c;obtain ⟨i,a,rfl⟩:=Lb hx;exact D9.2 ⟨_,h.mem i _ (F8 a),rfl⟩)
 simp at this;omega
theorem Dl {l:List Nat} (h:l.Nodup) (a:∀ i∈l,i<n):l.length<=n:=by
 have:=Ef h (l':=List.range n) (fun i b=>List.mem_range.2 (a i b));simpa using this
theorem og.LP {g':Gh} (hE:Y7 E) (h:og E g ac) (B:∀ it∈g.q,it.i<g.rs.length) {m:M3} (C:m∈E.ms) (t:BJ g g' m i x) (hi:g'.rs[i]?=some x) (O:∀ i,ac=some i->i<g.rs.length) (N:E.ms.length<=30):og E g' ac/\x.k.m=m/\(∀ (j:Nat) y,g.rs[j]?=some y->g'.rs[j]?=some y)/\Cg g'<=Cg g:=by
 rcases t with ⟨h1,h2,h3,o⟩ | ⟨rfl,h1,h2,h3,rfl,o,R,Q,h7,h8⟩
 · refine ⟨⟨?_,?_,?_,?_,?_,?_,?_,?_,?_,?_,?_,?_⟩,hE.one _ _ (h.mem i x h1) C h2,fun j y e=>by rw [h3];exact e,by unfold Cg;rw [h3];exact Nat.le_refl _⟩
   · rw [h3];exact h.mem
   · rw [h3];exact h.inj
   · rw [h3];exact h.his
   · rw [h3];exact h.fin
   · rw [h3];exact h.non
   · rw [h3];exact h.act
   · rw [h3,o];exact h.yR
   · rw [o];exact h.bS
   · rw [h3,o];exact h.nS
   · rw [h3,o];exact h.sS
   · rw [h3];exact h.vR
   rw [h3];exact h.WR
 have D:og E g' ac:=by
  have J:(tn x.k.m x.ls).over=false:=by rw [o];rfl
  refine ⟨?_,?_,?_,?_,?_,?_,?_,?_,?_,?_,?_,?_⟩
  · intro j y e
    rw [h2] at e;rcases o7 e with ⟨rfl,rfl⟩ | ⟨_,e⟩
    · exact C
    exact h.mem j y e
  · intro j A y y' e p s
    rw [h2] at e p;rcases o7 e with ⟨rfl,rfl⟩ | ⟨_,e⟩
    · rcases o7 p with ⟨rfl,rfl⟩ | ⟨_,p⟩
      · rfl
      exact absurd s.symm (h1 A y' p)
    rcases o7 p with ⟨rfl,S⟩ | ⟨_,p⟩
    · rw [S] at s;exact absurd s (h1 j y (by assumption))
    exact h.inj j A y y' e p s
  · intro j y e
    rw [h2] at e;rcases o7 e with ⟨rfl,rfl⟩ | ⟨_,e⟩
    · rw [o];exact .nil _
    exact h.his j y e
  · intro j y e f
    rw [h2] at e;rcases o7 e with ⟨rfl,rfl⟩ | ⟨_,e⟩
    · rw [h7] at f;cases f
    exact h.fin j y e f
  · intro j y e f
    rw [h2] at e;rcases o7 e with ⟨rfl,rfl⟩ | ⟨_,e⟩
    · exact ⟨J,h8⟩
    exact h.non j y e f
  · intro j y e
    rw [h2] at e;rcases o7 e with ⟨rfl,rfl⟩ | ⟨_,e⟩
    · rw [h7]
      exact ⟨(fun c=>by cases c),(fun c=>by have:=O _ c;omega)⟩
    exact h.act j y e
  · intro j y e
    rw [h2] at e;rw [h3,mf,P8];rcases o7 e with ⟨rfl,rfl⟩ | ⟨d,e⟩
    · exact ⟨fun _=>.inr (by simp [It.i]),fun _=>h7⟩
    rw [h.yR j y e];refine ⟨.inl,fun c=>?_⟩;rcases c with c | c
    · exact c
    simp [It.i] at c;omega
  · rw [h3,mf]
    refine Kv.2 ⟨h.bS,X0,fun a P b t=>?_⟩;obtain ⟨it,L,rfl⟩:=D9.1 P;have:=B it L;simp [It.i] at t;subst t;omega
  · intro j d y e
    rw [h2] at e;rw [h3,P8] at d;rcases o7 e with ⟨rfl,rfl⟩ | ⟨K,e⟩
    · exact R
    rcases d with d | d
    · exact h.nS j d y e
    simp at d;omega
  · intro j r b7 b5 d y e
    rw [h2] at e;rw [h3,P8] at d;rcases d with d | d
    · have K:j<g.rs.length:=B _ d
      rcases o7 e with ⟨rfl,_⟩ | ⟨_,e⟩
      · omega
      exact h.sS j r b7 b5 d y e
    simp at d
  · intro j y k e f
    rw [h2] at e;rcases o7 e with ⟨rfl,rfl⟩ | ⟨_,e⟩
    · rw [h7] at f;cases f
    obtain ⟨w,v,z,H,F⟩:=h.vR j y k e f;exact ⟨w,v,z,by rw [h2];exact Il H,F⟩
  intro j y e f;rw [h2] at e;rcases o7 e with ⟨rfl,rfl⟩ | ⟨_,e⟩
  · rw [Q]
    refine ⟨List.nodup_nil,fun i=>⟨(fun c=>by cases c),fun ⟨z,l,n⟩=>?_⟩⟩;rw [h2] at l;rcases o7 l with ⟨rfl,rfl⟩ | ⟨_,l⟩
    · rw [h7] at n;cases n
    obtain ⟨_,_,u,I,_⟩:=h.vR i z _ l n;have:=(Jd.1 I).1;omega
  obtain ⟨w,v⟩:=h.WR j y e f;refine ⟨w,fun i=>?_⟩;rw [v i,h2];constructor
  · rintro ⟨z,l,n⟩
    exact ⟨z,Il l,n⟩
  rintro ⟨z,l,n⟩;rcases o7 l with ⟨rfl,rfl⟩ | ⟨_,l⟩
  · rw [h7] at n;cases n
  exact ⟨z,l,n⟩
 refine ⟨D,rfl,fun j y e=>by rw [h2];exact Il e,?_⟩;have hl:=D.len N;have hl2:g'.rs.length=g.rs.length+1:=by rw [h2];simp
 unfold Cg;rw [h2];have hp:Xk x<=40:=by unfold Xk;omega
 simp;omega
theorem og.upd (h:og E g (some i)) (d:g.rs[i]?=some x) (o:x'.k=x.k) (f:x'.qR=x.qR) (W:x'.wl=x.wl) (V:x'.r=x.r) (U:I9 E x.k.m x'.ls) (ho:(tn x.k.m x'.ls).over=false):og E { g with rs:=g.rs.set i x' } (some i):=by
 have s:=(h.act i x d).2 rfl;have a:∀ (j:Nat) y,(g.rs.set i x')[j]?=some y->(j=i/\y=x')\/(j≠i/\g.rs[j]?=some y):=fun j y e=>by
  rcases Mf e with ⟨rfl,rfl⟩ | ⟨S,e⟩
  · exact .inl ⟨rfl,rfl⟩
  exact .inr ⟨fun c=>S c.symm,e⟩
 have H:∀ (j:Nat) y,g.rs[j]?=some y->∃ z,(g.rs.set i x')[j]?=some z/\z.k=y.k/\z.qR=y.qR:=fun j y e=>by
  obtain ⟨z,n,⟨rfl,rfl⟩ | ⟨rfl,_⟩⟩:=Za (x':=x') d e
  · rw [d] at e
    obtain rfl:=j6 e;exact ⟨_,n,o,f⟩
  exact ⟨z,n,rfl,rfl⟩
 have I:i∉g.q.map It.i:=fun c=>by
  have:=(h.yR i x d).2 c;rw [s] at this;cases this
 refine ⟨?_,?_,?_,?_,?_,?_,?_,h.bS,?_,?_,?_,?_⟩
 · intro j y e
   rcases a j y e with ⟨rfl,rfl⟩ | ⟨_,e⟩
   · rw [o];exact h.mem j x d
   exact h.mem j y e
 · intro j F y y' e p w
   rcases a j y e with ⟨rfl,rfl⟩ | ⟨_,e⟩
   · rcases a F y' p with ⟨rfl,rfl⟩ | ⟨_,p⟩
     · rfl
     rw [o] at w;exact h.inj _ _ _ _ d p w
   rcases a F y' p with ⟨X,c2⟩ | ⟨_,p⟩
   · rw [c2,o] at w;rw [X];exact h.inj _ _ _ _ e d w
   exact h.inj _ _ _ _ e p w
 · intro j y e
   rcases a j y e with ⟨rfl,rfl⟩ | ⟨_,e⟩
   · rw [o];exact U
   exact h.his j y e
 · intro j y e b
   rcases a j y e with ⟨rfl,rfl⟩ | ⟨_,e⟩
   · rw [f,s] at b;cases b
   exact h.fin j y e b
 · intro j y e b
   rcases a j y e with ⟨rfl,rfl⟩ | ⟨_,e⟩
   · rw [o,V];exact ⟨ho,(h.non j x d (by rw [s];simp)).2⟩
   exact h.non j y e b
 · intro j y e
   rcases a j y e with ⟨rfl,rfl⟩ | ⟨_,e⟩
   · rw [f];exact h.act j x d
   exact h.act j y e
 · intro j y e
   rcases a j y e with ⟨rfl,rfl⟩ | ⟨_,e⟩
   · rw [f];exact h.yR j x d
   exact h.yR j y e
 · intro j A y e
   rcases a j y e with ⟨rfl,rfl⟩ | ⟨_,e⟩
   · exact absurd (D9.2 ⟨_,A,rfl⟩) I
   exact h.nS j A y e
 · intro j r b7 b5 A y e
   rcases a j y e with ⟨rfl,rfl⟩ | ⟨_,e⟩
   · exact absurd (D9.2 ⟨_,A,rfl⟩) I
   exact h.sS j r b7 b5 A y e
 · intro j y k e b
   rcases a j y e with ⟨rfl,rfl⟩ | ⟨_,e⟩
   · rw [f,s] at b;cases b
   obtain ⟨C,B,z,P,O,N⟩:=h.vR j y k e b;obtain ⟨J,n,Q,D⟩:=H k z P;exact ⟨C,B,J,n,by rw [D];exact O,by rw [Q];exact N⟩
 intro j y e b;have key:∀ z,g.rs[j]?=some z->y.qR=z.qR->y.wl=z.wl->y.wl.Nodup/\∀ l,l∈y.wl↔∃ u,(g.rs.set i x')[l]?=some u/\u.qR=.vR j:=fun z n L K=>by
  obtain ⟨C,B⟩:=h.WR j z n (by rw [<- L];exact b);rw [K];refine ⟨C,fun l=>?_⟩;rw [B l];constructor
  · rintro ⟨u,v,t⟩
    obtain ⟨u',R,_,D⟩:=H l u v;exact ⟨u',R,by rw [D];exact t⟩
  rintro ⟨u,v,t⟩;rcases a l u v with ⟨rfl,rfl⟩ | ⟨_,v⟩
  · rw [f,s] at t;cases t
  exact ⟨u,v,t⟩
 rcases a j y e with ⟨rfl,rfl⟩ | ⟨_,e⟩
 · exact key x d f W
 exact key y e rfl rfl
def Bb (i:Nat) (y:Ru):Ru:=if y.qR=.vR i then { y with qR:=.yR } else y
theorem X7 (i:Nat) (y:Ru):(Bb i y).k=y.k/\(Bb i y).ls=y.ls/\(Bb i y).st=y.st/\(Bb i y).wl=y.wl/\(Bb i y).r=y.r:=by
 unfold Bb;split <;> exact ⟨rfl,rfl,rfl,rfl,rfl⟩
theorem zC (i:Nat) (y:Ru):(Bb i y).wt=y.wt:=by
 unfold Bb;split <;> rfl
theorem Gd (i:Nat) (y:Ru):(Bb i y).qR=if y.qR=.vR i then .yR else y.qR:=by
 unfold Bb;split <;> rfl
theorem map_some {F:Ru->Ru} (h:(l.map F)[j]?=some y):∃ z,l[j]?=some z/\y=F z:=by
 rw [Kb] at h;obtain ⟨z,h1,h2⟩:=Uo.1 h;exact ⟨z,h1,h2.symm⟩
theorem ik {F:Ru->Ru} {z:Ru} (h:l[j]?=some z):(l.map F)[j]?=some (F z):=by rw [Kb,h];rfl
theorem og.end {r:R2} (h:og E g (some i)) (p:g.rs[i]?=some x) (I:x'.k=x.k) (H:x'.qR=.fin) (e3:x'.wl=x.wl) (e4:x'.r=r) (ew:x'.wt=⟨#[]⟩) (Z:I9 E x.k.m x'.ls) (ho:(tn x.k.m x'.ls).over=true) (er:r=Pj (tn x.k.m x'.ls)) (V:its.map It.i=x.wl) (X:∀ it∈its,∃ j b7 b5,it=.re j r b7 b5):
 og E { g with rs:=(g.rs.map (Bb i)).set i x',q:=g.q++its } none:=by
 have B:=(h.act i x p).2 rfl;have hi':(g.rs.map (Bb i))[i]?=some (Bb i x):=ik p;have s:∀ (j:Nat) y,((g.rs.map (Bb i)).set i x')[j]?=some y->(j=i/\y=x')\/(j≠i/\∃ z,g.rs[j]?=some z/\y=Bb i z):=fun j y e=>by
  rcases Mf e with ⟨rfl,rfl⟩ | ⟨w,e⟩
  · exact .inl ⟨rfl,rfl⟩
  exact .inr ⟨fun c=>w c.symm,map_some e⟩
 have Y:∀ (j:Nat) y,g.rs[j]?=some y->∃ z,((g.rs.map (Bb i)).set i x')[j]?=some z/\z.k=y.k/\(j=i/\z=x'\/j≠i/\z=Bb i y):=fun j y e=>by
  obtain ⟨z,f,⟨rfl,rfl⟩ | ⟨rfl,w⟩⟩:=Za (x':=x') hi' (ik (F:=Bb i) e)
  · rw [p] at e
    obtain rfl:=j6 e;exact ⟨_,f,I,.inl ⟨rfl,rfl⟩⟩
  exact ⟨_,f,(X7 i y).1,.inr ⟨fun c=>w c.symm,rfl⟩⟩
 have C:=h.WR i x p (by rw [B];simp);have hfin:Fin E x.k.m.nm r:=⟨x.k.m,x'.ls,h.mem i x p,rfl,Z,ho,er⟩;have hact:∀ (j:Nat) z,g.rs[j]?=some z->j≠i->z.qR≠.act:=fun j z f w c=>by
  have:=(h.act j z f).1 c;simp at this;exact w this.symm
 refine ⟨?_,?_,?_,?_,?_,?_,?_,?_,?_,?_,?_,?_⟩
 · intro j y e
   rcases s j y e with ⟨rfl,rfl⟩ | ⟨_,z,f,rfl⟩
   · rw [I];exact h.mem j x p
   rw [(X7 i z).1];exact h.mem j z f
 · intro j W y y' e e' D
   rcases s j y e with ⟨A,c2⟩ | ⟨_,z,f,c2⟩
   · rcases s W y' e' with ⟨N,J⟩ | ⟨_,P,S,J⟩
     · rw [A,N]
     rw [c2,J,I,(X7 i P).1] at D;rw [A];exact h.inj _ _ _ _ p S D
   rcases s W y' e' with ⟨N,J⟩ | ⟨_,P,S,J⟩
   · rw [c2,J,I,(X7 i z).1] at D
     rw [N];exact h.inj _ _ _ _ f p D
   rw [c2,J,(X7 i z).1,(X7 i P).1] at D;exact h.inj _ _ _ _ f S D
 · intro j y e
   rcases s j y e with ⟨rfl,rfl⟩ | ⟨_,z,f,rfl⟩
   · rw [I];exact Z
   rw [(X7 i z).1,(X7 i z).2.1];exact h.his j z f
 · intro j y e o
   rcases s j y e with ⟨rfl,rfl⟩ | ⟨_,z,f,rfl⟩
   · rw [I,e4];exact ⟨⟨ho,ew⟩,er⟩
   rw [(X7 i z).1,(X7 i z).2.1,(X7 i z).2.2.2.2,zC];refine h.fin j z f ?_;rw [Gd] at o;split at o
   · cases o
   exact o
 · intro j y e o
   rcases s j y e with ⟨rfl,rfl⟩ | ⟨_,z,f,rfl⟩
   · exact absurd H o
   rw [(X7 i z).1,(X7 i z).2.1,(X7 i z).2.2.2.2];refine h.non j z f (fun c=>o ?_);rw [Gd,c];rfl
 · intro j y e
   refine ⟨fun c=>?_,(fun c=>by cases c)⟩;rcases s j y e with ⟨rfl,rfl⟩ | ⟨w,z,f,rfl⟩
   · rw [H] at c;cases c
   rw [Gd] at c;split at c
   · cases c
   exact absurd c (hact j z f w)
 · intro j y e
   show y.qR=.yR↔j∈(g.q++its).map It.i;rw [mf,P8,V];rcases s j y e with ⟨rfl,rfl⟩ | ⟨w,z,f,rfl⟩
   · rw [H]
     refine ⟨(fun c=>by cases c),fun c=>?_⟩;rcases c with c | c
     · have:=(h.yR j x p).2 c
       rw [B] at this;cases this
     obtain ⟨u,n,l⟩:=(C.2 j).1 c;rw [p] at n;obtain rfl:=j6 n;rw [B] at l;cases l
   rw [Gd];by_cases c:z.qR=.vR i
   · rw [Y3 c]
     exact ⟨fun _=>.inr ((C.2 j).2 ⟨z,f,c⟩),fun _=>rfl⟩
   rw [R3 c,h.yR j z f];refine ⟨.inl,fun d=>?_⟩;rcases d with d | d
   · exact d
   obtain ⟨u,n,l⟩:=(C.2 j).1 d;rw [f] at n;obtain rfl:=j6 n;exact absurd l c
 · show ((g.q++its).map It.i).Nodup
   rw [mf,V];refine Kv.2 ⟨h.bS,C.1,fun a ha b hb hab=>?_⟩;subst hab;obtain ⟨u,n,l⟩:=(C.2 a).1 hb;have:=(h.yR a u n).2 ha;rw [l] at this;cases this
 · intro j t y e
   rcases P8.1 t with t | t
   · rcases s j y e with ⟨A,_⟩ | ⟨_,z,f,rfl⟩
     · have:=(h.yR i x p).2 (by rw [<- A];exact D9.2 ⟨_,t,rfl⟩)
       rw [B] at this;cases this
     rw [(X7 i z).2.2.1];exact h.nS j t z f
   obtain ⟨_,_,_,c⟩:=X _ t;cases c
 · intro j r' b7 b5 t y e
   rcases P8.1 t with t | t
   · rcases s j y e with ⟨A,_⟩ | ⟨_,z,f,rfl⟩
     · have:=(h.yR i x p).2 (by rw [<- A];exact D9.2 ⟨_,t,rfl⟩)
       rw [B] at this;cases this
     rw [(X7 i z).1,(X7 i z).2.1];exact h.sS j r' b7 b5 t z f
   obtain ⟨j2,_,_,c⟩:=X _ t;injection c with A c2;subst c2;have hjw:j∈x.wl:=by rw [<- V];exact D9.2 ⟨_,t,rfl⟩
   obtain ⟨u,n,l⟩:=(C.2 j).1 hjw;rcases s j y e with ⟨N,_⟩ | ⟨_,z,f,rfl⟩
   · rw [N,p] at n
     obtain rfl:=j6 n;rw [B] at l;cases l
   rw [f] at n;obtain rfl:=j6 n;obtain ⟨L,K,v,O,_,Q⟩:=h.vR j z i f l;rw [p] at O;obtain rfl:=j6 O;rw [(X7 i z).1,(X7 i z).2.1];exact .inr ⟨L.1,.inr ⟨K,by rw [<- Q];exact hfin⟩⟩
 · intro j y k e o
   rcases s j y e with ⟨rfl,rfl⟩ | ⟨_,z,f,rfl⟩
   · rw [H] at o;cases o
   rw [Gd] at o;split at o
   · cases o
   rename_i hnw;obtain ⟨L,K,v,O,p4,Q⟩:=h.vR j z k f o;obtain ⟨v',hv',k1,⟨rfl,rfl⟩ | ⟨_,rfl⟩⟩:=Y k v O
   · exact absurd o hnw
   rw [(X7 i z).1,(X7 i z).2.1,zC];refine ⟨L,K,_,hv',fun c=>p4 ?_,by rw [k1];exact Q⟩;rw [Gd] at c;split at c
   · cases c
   exact c
 intro j y e o;rcases s j y e with ⟨rfl,rfl⟩ | ⟨w,z,f,rfl⟩
 · exact absurd H o
 have hzf:z.qR≠.fin:=fun c=>o (by rw [Gd,c];rfl);obtain ⟨L,K⟩:=h.WR j z f hzf;rw [(X7 i z).2.2.2.1];refine ⟨L,fun R=>?_⟩;rw [K R];constructor
 · rintro ⟨u,n,l⟩
   obtain ⟨u',U,_,⟨A,c2⟩ | ⟨_,rfl⟩⟩:=Y R u n
   · rw [A,p] at n
     obtain rfl:=j6 n;rw [B] at l;cases l
   refine ⟨_,U,?_⟩;rw [Gd,l,R3 (fun c=>?_)];injection c with c;exact w c
 rintro ⟨u,n,l⟩;rcases s R u n with ⟨A,c2⟩ | ⟨_,u',U,rfl⟩
 · rw [c2,H] at l;cases l
 rw [Gd] at l;split at l
 · cases l
 exact ⟨u',U,l⟩
def XN (i j:Nat) (nm:ByteArray) (k:Nat) (z z':Ru):Prop:=z'.k=z.k/\z'.ls=z.ls/\z'.st=z.st/\(z'.r=z.r/\z'.wt=if k=i then nm else z.wt)/\z'.qR=(if k=i then .vR j else z.qR)/\z'.wl=if k=j then z.wl++[i] else z.wl
theorem og.SQ (h:og E g (some i)) (L:g.rs[i]?=some x) (R:g.rs[j]?=some y) (hhas:(tn x.k.m x.ls).has=false) (hpl:E.pl (tn x.k.m x.ls).name=none) (Y:y.qR≠.fin) (X:y.k.m.nm=(tn x.k.m x.ls).name) (h1:∀ (k:Nat) z,g.rs[k]?=some z->∃ f,rs2[k]?=some f/\XN i j (tn x.k.m x.ls).name k z f) (h2:∀ (k:Nat) f,rs2[k]?=some f->∃ z,g.rs[k]?=some z/\XN i j (tn x.k.m x.ls).name k z f):og E { g with rs:=rs2 } none:=by
 have H:=(h.act i x L).2 rfl;have C:∀ z,g.rs[i]?=some z->z=x:=fun z n=>by rw [L] at n;exact (j6 n).symm
 have D:∀ (k:Nat) z f,g.rs[k]?=some z->XN i j (tn x.k.m x.ls).name k z f->(f.qR=.fin↔z.qR=.fin):=fun k z f n hw=>by
  rw [hw.2.2.2.2.1];by_cases c:k=i
  · subst c
    rw [Y3 rfl,C z n,H];exact ⟨(fun d=>by cases d),(fun d=>by cases d)⟩
  rw [R3 c]
 refine ⟨?_,?_,?_,?_,?_,?_,?_,h.bS,?_,?_,?_,?_⟩
 · intro k f e
   obtain ⟨z,n,hw⟩:=h2 k f e;rw [hw.1];exact h.mem k z n
 · intro k W z f e e' Q
   obtain ⟨u,w,hw⟩:=h2 k z e;obtain ⟨u',t,I⟩:=h2 W f e';rw [hw.1,I.1] at Q;exact h.inj _ _ _ _ w t Q
 · intro k f e
   obtain ⟨z,n,hw⟩:=h2 k f e;rw [hw.1,hw.2.1];exact h.his k z n
 · intro k f e p
   obtain ⟨z,n,hw⟩:=h2 k f e;have J:=(D k z f n hw).1 p;have hki:k≠i:=fun c=>by rw [c] at n;rw [C z n,H] at J;cases J
   rw [hw.1,hw.2.1,hw.2.2.2.1.1,hw.2.2.2.1.2,R3 hki];exact h.fin k z n J
 · intro k f e p
   obtain ⟨z,n,hw⟩:=h2 k f e;rw [hw.1,hw.2.1,hw.2.2.2.1.1];exact h.non k z n (fun c=>p ((D k z f n hw).2 c))
 · intro k f e
   obtain ⟨z,n,hw⟩:=h2 k f e;rw [hw.2.2.2.2.1];refine ⟨fun c=>?_,(fun c=>by cases c)⟩;by_cases d:k=i
   · rw [Y3 d] at c;cases c
   rw [R3 d] at c;have:=(h.act k z n).1 c;simp at this;exact absurd this.symm d
 · intro k f e
   obtain ⟨z,n,hw⟩:=h2 k f e;show f.qR=.yR↔k∈g.q.map It.i;rw [<- h.yR k z n,hw.2.2.2.2.1];by_cases d:k=i
   · subst d
     rw [Y3 rfl,C z n,H];exact ⟨(fun c=>by cases c),(fun c=>by cases c)⟩
   rw [R3 d]
 · intro k K f e
   obtain ⟨z,n,hw⟩:=h2 k f e;rw [hw.2.2.1];exact h.nS k K z n
 · intro k r b7 b5 K f e
   obtain ⟨z,n,hw⟩:=h2 k f e;rw [hw.1,hw.2.1];exact h.sS k r b7 b5 K z n
 · intro k f l e p
   obtain ⟨z,n,hw⟩:=h2 k f e;rw [hw.1,hw.2.1,hw.2.2.2.1.2];rw [hw.2.2.2.2.1] at p;by_cases d:k=i
   · subst d
     rw [Y3 rfl] at p ⊢;injection p with p;subst p;rw [C z n];obtain ⟨y',Z,I⟩:=h1 j y R;exact ⟨⟨hhas,rfl⟩,hpl,y',Z,fun c=>Y ((D j y y' R I).1 c),by rw [I.1];exact X⟩
   rw [R3 d] at p ⊢;obtain ⟨F,A,v,N,V,U⟩:=h.vR k z l n p;obtain ⟨v',hv',O⟩:=h1 l v N;exact ⟨F,A,v',hv',fun c=>V ((D l v v' N O).1 c),by rw [O.1];exact U⟩
 intro k f e p;obtain ⟨z,n,hw⟩:=h2 k f e;obtain ⟨F,A⟩:=h.WR k z n (fun c=>p ((D k z f n hw).2 c));have P:i∈z.wl->False:=fun c=>by
  obtain ⟨u,w,s⟩:=(A i).1 c;rw [C u w,H] at s;cases s
 have key:∀ o,(∃ u,rs2[o]?=some u/\u.qR=.vR k)↔(o∈z.wl\/(o=i/\k=j)):=fun o=>by
  constructor
  · rintro ⟨u',t,s⟩
    obtain ⟨u,w,B⟩:=h2 o u' t;rw [B.2.2.2.2.1] at s;by_cases d:o=i
    · rw [Y3 d] at s
      injection s with s;exact .inr ⟨d,s.symm⟩
    rw [R3 d] at s;exact .inl ((A o).2 ⟨u,w,s⟩)
  rintro (c | ⟨rfl,rfl⟩)
  · obtain ⟨u,w,s⟩:=(A o).1 c
    obtain ⟨u',t,B⟩:=h1 o u w;refine ⟨u',t,?_⟩;rw [B.2.2.2.2.1,R3 (fun d=>?_)]
    · exact s
    subst d;exact P c
  obtain ⟨u',t,B⟩:=h1 o x L;exact ⟨u',t,by rw [B.2.2.2.2.1,Y3 rfl]⟩
 rw [hw.2.2.2.2.2];by_cases d:k=j
 · rw [Y3 d]
   refine ⟨Kv.2 ⟨F,X0,fun a ha b S hab=>?_⟩,fun o=>?_⟩
   · simp at S
     subst hab S;exact P ha
   rw [key o,P8];simp [d]
 rw [R3 d];refine ⟨F,fun o=>?_⟩;rw [key o];simp [d]
theorem og.pop (h:og E g none) (f:g.q=it::q') (b:g.rs[it.i]?=some x):og E { g with rs:=g.rs.set it.i { x with qR:=.act,st:=true },q:=q' } (some it.i)/\(tn x.k.m x.ls).over=false/\(∀ i,it=.go i->x.st=false)/\∀ i r b7 b5,it=.re i r b7 b5->Zy E (tn x.k.m x.ls) r:=by
 have s:=(h.yR it.i x b).2 (by rw [f];simp);have A:=h.bS;rw [f,zh,nA] at A;have a:∀ (j:Nat) y,(g.rs.set it.i { x with qR:=.act,st:=true })[j]?=some y->(j=it.i/\y={ x with qR:=.act,st:=true })\/(j≠it.i/\g.rs[j]?=some y):=fun j y e=>by
  rcases Mf e with ⟨rfl,rfl⟩ | ⟨w,e⟩
  · exact .inl ⟨rfl,rfl⟩
  exact .inr ⟨fun c=>w c.symm,e⟩
 have L:∀ (j:Nat) y,g.rs[j]?=some y->∃ z,(g.rs.set it.i { x with qR:=.act,st:=true })[j]?=some z/\z.k=y.k/\z.ls=y.ls/\(z.qR=.fin↔y.qR=.fin)/\(∀ l,z.qR=.vR l↔y.qR=.vR l):=fun j y e=>by
  obtain ⟨z,D,⟨rfl,rfl⟩ | ⟨rfl,_⟩⟩:=Za (x':={ x with qR:=.act,st:=true }) b e
  · rw [b] at e
    obtain rfl:=j6 e;exact ⟨_,D,rfl,rfl,by rw [s];simp,fun l=>by rw [s];simp⟩
  exact ⟨z,D,rfl,rfl,Iff.rfl,fun _=>Iff.rfl⟩
 refine ⟨⟨?_,?_,?_,?_,?_,?_,?_,A.2,?_,?_,?_,?_⟩,(h.non it.i x b (by rw [s];simp)).1,fun i e=>?_,fun i r b7 b5 e=>?_⟩
 · intro j y e
   rcases a j y e with ⟨rfl,rfl⟩ | ⟨_,e⟩
   · exact h.mem _ x b
   exact h.mem j y e
 · intro j K y y' e o B
   rcases a j y e with ⟨p,c2⟩ | ⟨_,e⟩
   · rcases a K y' o with ⟨J,N⟩ | ⟨_,o⟩
     · rw [p,J]
     rw [c2] at B;rw [p];exact h.inj _ _ _ _ b o B
   rcases a K y' o with ⟨J,N⟩ | ⟨_,o⟩
   · rw [N] at B
     rw [J];exact h.inj _ _ _ _ e b B
   exact h.inj _ _ _ _ e o B
 · intro j y e
   rcases a j y e with ⟨rfl,rfl⟩ | ⟨_,e⟩
   · exact h.his _ x b
   exact h.his j y e
 · intro j y e d
   rcases a j y e with ⟨rfl,rfl⟩ | ⟨_,e⟩
   · cases d
   exact h.fin j y e d
 · intro j y e d
   rcases a j y e with ⟨rfl,rfl⟩ | ⟨_,e⟩
   · exact h.non _ x b (by rw [s];simp)
   exact h.non j y e d
 · intro j y e
   rcases a j y e with ⟨rfl,rfl⟩ | ⟨w,e⟩
   · simp
   rw [h.act j y e];refine ⟨(fun c=>by cases c),fun c=>?_⟩;exact absurd (j6 c).symm w
 · intro j y e
   rcases a j y e with ⟨rfl,rfl⟩ | ⟨w,e⟩
   · exact ⟨(fun c=>by cases c),fun c=>absurd c A.1⟩
   rw [h.yR j y e,f];show j∈it.i::q'.map It.i↔j∈q'.map It.i;rw [D_];exact ⟨fun c=>c.resolve_left w,.inr⟩
 · intro j C y e
   rcases a j y e with ⟨p,_⟩ | ⟨_,e⟩
   · exact absurd (D9.2 ⟨_,C,p⟩) A.1
   exact h.nS j (by rw [f];exact Fg _ C) y e
 · intro j r b7 b5 C y e
   rcases a j y e with ⟨p,_⟩ | ⟨_,e⟩
   · exact absurd (D9.2 ⟨_,C,p⟩) A.1
   exact h.sS j r b7 b5 (by rw [f];exact Fg _ C) y e
 · intro j y l e d
   rcases a j y e with ⟨rfl,rfl⟩ | ⟨_,e⟩
   · cases d
   obtain ⟨I,H,v,S,R,Q⟩:=h.vR j y l e d;obtain ⟨v',X,W,k2,V,_⟩:=L l v S;exact ⟨I,H,v',X,fun c=>R (V.1 c),by rw [W];exact Q⟩
 · intro j y e d
   have key:∀ z,g.rs[j]?=some z->z.qR≠.fin->y.wl=z.wl->y.wl.Nodup/\∀ n,n∈y.wl↔∃ u,(g.rs.set it.i { x with qR:=.act,st:=true })[n]?=some u/\u.qR=.vR j:=fun z D P O=>by
    obtain ⟨I,H⟩:=h.WR j z D P;rw [O];refine ⟨I,fun n=>?_⟩;rw [H n];constructor
    · rintro ⟨u,t,F⟩
      obtain ⟨u',Y,_,_,_,U⟩:=L n u t;exact ⟨u',Y,(U j).2 F⟩
    rintro ⟨u,t,F⟩;rcases a n u t with ⟨_,rfl⟩ | ⟨_,t⟩
    · cases F
    exact ⟨u,t,F⟩
   rcases a j y e with ⟨rfl,rfl⟩ | ⟨_,e⟩
   · exact key x b (by rw [s];simp) rfl
   exact key y e d rfl
 · subst e
   exact h.nS i (by rw [f];exact Uh ..) x b
 subst e;exact h.sS i r b7 b5 (by rw [f];exact Uh ..) x b
theorem lm (h:og E g ac) (a:g.rs[j]?=some y):(g.rs.find? fun z=>decide (z.k.m.nm=y.k.m.nm))=some y:=by
 cases hf:(g.rs.find? fun z=>decide (z.k.m.nm=y.k.m.nm)) with
 | none=>exact absurd (cB.1 hf y (su a)) X0
 | some z=>
  have h1:=Tz hf;obtain ⟨k,b,rfl⟩:=Lb (YA hf);have:=h.inj k j _ y (F8 b) a (by simpa using h1);subst this;rw [F8 b] at a;exact a
theorem og.looks (hE:Y7 E) (h:og E g none) (z:g.q=[]) (f:g.rs[i]?=some x):BN E x.k.m.nm x.ls:=by
 have hw:∀ (j:Nat) y,g.rs[j]?=some y->y.qR≠.fin->∃ k,y.qR=.vR k:=fun j y a l=>by
  cases b:y.qR with
  | act=>have:=(h.act j y a).1 b;cases this
  | yR=>have:=(h.yR j y a).1 b;rw [z] at this;cases this
  | fin=>exact absurd b l
  | vR k=>exact ⟨k,rfl⟩
 refine .inr ⟨x.k.m,h.mem i x f,rfl,h.his i x f,fun ls H=>?_⟩;have key:=Qr hE (D:=fun m=>∃ (j:Nat) (y:Ru),g.rs[j]?=some y/\y.k.m=m) (O:=fun m=>∃ (j:Nat) (y:Ru),g.rs[j]?=some y/\y.k.m=m/\y.qR=.fin) (L:=fun m=>((g.rs.find? fun y=>decide (y.k.m.nm=m.nm)).elim [] (·.ls))) (fun m ⟨j,y,a,e⟩=>e▸h.mem j y a) (fun m ⟨j,y,a,e⟩=>by
  subst e;rw [lm h a];exact h.his j y a) (fun m _ ⟨j,y,a,e,b⟩=>by
  subst e;rw [lm h a];exact (h.fin j y a b).1.1) (fun m ⟨j,y,a,e⟩ A=>by
  subst e;rw [lm h a];have l:y.qR≠.fin:=fun c=>A ⟨j,y,a,rfl,c⟩;obtain ⟨k,F⟩:=hw j y a l;obtain ⟨u,t,v,d,s,r⟩:=h.vR j y k a F;refine ⟨(h.non j y a l).1,u.1,t,fun m' C B=>?_⟩;have hv:=hE.one _ _ (h.mem k v d) C (r.trans B.symm);refine ⟨⟨k,v,d,hv⟩,fun ⟨o,p,n,I,w⟩=>s ?_⟩;have:o=k:=h.inj o k p v n d (by rw [I,hv]);subst this;rw [d] at n;obtain rfl:=j6 n;exact w) H ⟨i,x,f,rfl⟩
 rw [lm h f] at key;exact key
theorem vK (m:M3) (ls:List M.L4):(∀ x∈ls,x.tx.size<=1048576)->Cu (Sg m ls)/\(Sg m ls).nR.length<=ls.length:=
 ku (P:=fun ls=>(∀ x∈ls,x.tx.size<=1048576)->Cu (Sg m ls)/\(Sg m ls).nR.length<=ls.length) (fun _=>⟨xu,Q6 _⟩) (fun ls x a h=>by
  obtain ⟨h1,h2⟩:=a (fun y b=>h y (XA _ b));rw [Wl];refine ⟨kI h1 (h x X0),?_⟩;have:=YE (tl:=m.tl) (ar:=m.ar) (s:=Sg m ls) (r:=⟨x.cd,x.tx⟩);simp;omega) ls
structure uH (f:Fx) (E:Env) (g g':Gh) (w w':World):Prop where
 vT:Ab f g' w'
 YV:og E g' none
 ext:∀ (j:Nat) y,g.rs[j]?=some y->∃ y',g'.rs[j]?=some y'/\y'.k=y.k
 Cg:Cg g'<=Cg g
 bl:Below f.base w w'
 kp:∀ k,k<w.heap.size->g.ow k=none->w'.heap[k]?=w.heap[k]?/\g'.ow k=none
def mP (f:Fx) (E:Env) (n:Nat):Prop:=∀ (g:Gh) (i:Nat) (x:Ru) (w:World),Ab f g w->og E g (some i)->g.rs[i]?=some x->15<=x.ls.length+n->
 Calls prog 86 #[pt f.kb,pt x.k.B,(tn x.k.m x.ls).v,x.k.go] w fun e w'=>e=.returned (.tuple #[])/\∃ g',uH f E g g' w w'
def ZN (f:Fx) (E:Env) (n:Nat):Prop:=∀ (g:Gh) (i:Nat) (x:Ru) (r:R2) (w:World),Ab f g w->og E g (some i)->g.rs[i]?=some x->15<=x.ls.length+n->Zy E (tn x.k.m x.ls) r->
 Calls prog 84 #[.agg #[.int .i64 r.code,.string r.tx],pt x.k.c5,pt x.k.pR,pt x.k.wR,pt x.k.c2,pt x.k.uR] w fun e w'=>e=.returned (.tuple #[])/\∃ g',uH f E g g' w w'/\Cg g'<Cg g
theorem jM (h:Ab f g w) {F:Ru->Ru} (hF:∀ x,∃ s,F x={ x with qR:=s }):Ab f { g with rs:=g.rs.map F } w:=by
 have d:∀ x,(F x).k=x.k:=fun x=>by obtain ⟨s,e⟩:=hF x;rw [e]
 have m:(g.rs.map F).map (·.k)=g.ks:=by rw [Kq];exact Bo fun x _=>d x
 have b:∀ (j:Nat) y,(g.rs.map F)[j]?=some y->∃ z s,g.rs[j]?=some z/\y={ z with qR:=s }:=fun j y e=>by
  obtain ⟨z,h1,h2⟩:=map_some e;obtain ⟨s,t⟩:=hF z;exact ⟨z,s,h1,h2.trans t⟩
 exact {
  bl:=h.bl
  FR:=h.FR
  kb:=h.kb
  BR:=h.BR
  mr:=h.mr
  ar:=h.ar
  TR:=h.TR
  mw:=h.mw
  aw:=h.aw
  ZR:=h.ZR
  pl:=h.pl
  jS:=h.jS
  rd:=by show X8 w f.base 1 g.rv (g.q.map (It.v ((g.rs.map F).map (·.k))));rw [m];exact h.rd
  ord:=h.ord
  its:=fun it l=>by show it.At ((g.rs.map F).map (·.k)) w/\_;rw [m];exact h.its it l
  ru:=fun j y e=>by
   obtain ⟨z,s,a,rfl⟩:=b j y e;have:=h.ru j z a;exact ⟨this.hB,this.h7,this.h8,this.h9,this.h2,this.h10,this.rw,this.lk⟩
  ER:=fun j y e=>by
   obtain ⟨z,s,a,rfl⟩:=b j y e;exact h.ER j z a
  wr:=fun j y e=>by
   obtain ⟨z,s,a,rfl⟩:=b j y e;show w.ownsRow f.base 151 1 z.wv z.wl.length (z.wl.map fun j=>(((g.rs.map F).map (·.k)).getD j Kj).go);rw [m];exact h.wr j z a
  aS:=fun j y e=>by
   obtain ⟨z,s,a,rfl⟩:=b j y e;exact h.aS j z a
  lS:=fun j y e k d=>by
   obtain ⟨z,s,a,rfl⟩:=b j y e;show k<(g.rs.map F).length;rw [qc];exact h.lS j z a k d
  key:=fun j y e=>by
   obtain ⟨z,s,a,rfl⟩:=b j y e;exact h.key j z a
  only:=fun n c=>by
   obtain ⟨j,z,a,e⟩:=h.only n c;exact ⟨j,F z,ik a,by rw [d];exact e⟩
  kw:=fun j y e=>by
   obtain ⟨z,s,a,rfl⟩:=b j y e;exact h.kw j z a
  JS:=fun n c=>by
   obtain ⟨j,z,a,e⟩:=h.JS n c;exact ⟨j,F z,ik a,by rw [d];exact e⟩
  inj:=fun j o y y' e u c=>by
   obtain ⟨z,s,a,rfl⟩:=b j y e;obtain ⟨p,s',r,rfl⟩:=b o y' u;exact h.inj j o z p a r c
  JR:=fun it l=>by show it.i<(g.rs.map F).length;rw [qc];exact h.JR it l }
theorem ic.gh (h:ic base kb x t s w) (g:x'.k=x.k) (f:x'.ls=x.ls) (e:x'.lv=x.lv) (d:x'.v1=x.v1) (c:x'.v2=x.v2) (b:x'.r=x.r) (a:x'.wt=x.wt):ic base kb x' t s w:=by
 obtain ⟨k,ls,lv,v1,v2,wv,st,wt,r,qR,wl⟩:=x;obtain ⟨k',ls',PR,v1',v2',wv',st',wt',r',a4z,jT⟩:=x';dsimp only at g f e d c b a;subst g f e d c b a;exact ⟨h.hB,h.h7,h.h8,h.h9,h.h2,h.h10,h.rw,h.lk⟩
end Go.Proofs.YtdjaajjndfbpmaaGreatDoor
namespace Go.Proofs.YtdjaajjndfbpmaaGreatDoor
open Go.RowKit
open G.T (lt Lh)
def qa (ls:List M.L4) (wt:ByteArray):List ByteArray:=((ls.filter fun x=>!x.has).map (·.nm))++if wt=⟨#[]⟩ then [] else [wt]
structure Dd where
 nm:ByteArray
 md:Bool
 m:M3
 ls:List M.L4
 r:R2
 wt:ByteArray
def Xc (E:Env) (n:ByteArray) (d:Dd):Prop:=(∃ r,E.pl n=some r/\d=⟨n,false,N7,[],r,⟨#[]⟩⟩)\/∃ m L,m∈E.ms/\m.nm=n/\I9 E m L/\(∀ ls,I9 E m ls->ls <+:L)/\d=⟨n,true,m,L,if (tn m L).over then Pj (tn m L) else ⟨6,⟨#[]⟩⟩,if (tn m L).over then ⟨#[]⟩ else (tn m L).name⟩
theorem Ki {E:Env} (hE:Y7 E) {n:ByteArray} {d d':Dd} (h:Xc E n d) (g:Xc E n d'):d=d':=by
 rcases h with ⟨r,h1,rfl⟩ | ⟨m,L,h1,h2,h3,f,rfl⟩ <;> rcases g with ⟨r',a,rfl⟩ | ⟨m',i,a,c,e,b,rfl⟩
 · rw [h1] at a
   obtain rfl:=j6 a;rfl
 · have:=(hE.made n).2 ⟨m',a,c⟩
   rw [h1] at this;cases this
 · have:=(hE.made n).2 ⟨m,h1,h2⟩
   rw [a] at this;cases this
 obtain rfl:=hE.one _ _ h1 a (h2.trans c.symm);obtain rfl:L=i:=(b _ h3).eq_of_length (Nat.le_antisymm (b _ h3).length_le (f _ e).length_le);rfl
theorem Lp {E:Env} {n:ByteArray} {d:Dd} (h:Xc E n d):d.nm=n:=by
 rcases h with ⟨r,h1,rfl⟩ | ⟨m,L,h1,h2,h3,h4,rfl⟩ <;> rfl
theorem Vl {E:Env} (hE:Y7 E) {n:ByteArray} {d:Dd} (h:Xc E n d):d.ls.length<=15/\∀ k∈qa d.ls d.wt,J2 k.data.toList=true:=by
 rcases h with ⟨r,h1,rfl⟩ | ⟨m,L,h1,h2,h3,h4,rfl⟩
 · exact ⟨X0,fun k a=>by simp [qa] at a⟩
 have ho:=ze hE (hE.ms _ h1) h3;refine ⟨ho.1,fun k a=>?_⟩;unfold qa at a;rcases P8.1 a with a | a
 · obtain ⟨x,hx,rfl⟩:=D9.1 a
   exact (ho.2 x (xm.1 hx).1).1
 dsimp only at a;cases hov:(tn m L).over
 · rw [hov] at a
   simp only [I_,xg] at a;split at a
   · cases a
   rw [R9.1 a];exact ((S_ hE h3 (hE.ms _ h1)).name hov).1
 rw [hov] at a;simp at a
def Ask (E:Env) (n k:ByteArray):Prop:=∃ d,Xc E n d/\k∈qa d.ls d.wt
inductive Js (E:Env) (n0:ByteArray):ByteArray->Prop
 | base:Js E n0 n0
 | step {n k:ByteArray}:Js E n0 n->Ask E n k->Js E n0 k
theorem VA {E:Env} (hE:Y7 E) {n0 k:ByteArray} (h0:J2 n0.data.toList=true) (h:Js E n0 k):J2 k.data.toList=true:=by
 cases h with
 | base=>exact h0
 | step _ ha=>obtain ⟨d,h1,h2⟩:=ha;exact (Vl hE h1).2 _ h2
theorem Qy (ls:List M.L4) (wt:ByteArray):(qa ls wt).length<=ls.length+1:=by
 unfold qa;rw [Q7,qc];have:=List.length_filter_le (fun x:M.L4=>!x.has) ls;split <;> simp <;> omega
theorem NG {α β:Type} (F:α->List β) (B:Nat):∀ l:List α,(∀ x∈l,(F x).length<=B)->(l.flatMap F).length<=B*l.length
 | [],_=>X0
 | x::r,h=>by
  have:=NG F B r (fun y a=>h y (Fg _ a));have:=h x (Uh ..);rw [Qe,Q7,u_,Nat.mul_succ];omega
open Classical in
theorem El {E:Env} (hE:Y7 E) (hms:E.ms.length<=30) {n0:ByteArray} {N:List ByteArray} (g:N.Nodup) (h:∀ k∈N,Js E n0 k):N.length<=481:=by
 have key:=Ef g (l':=n0::E.ms.flatMap fun m=>if h:∃ d,Xc E m.nm d then qa h.choose.ls h.choose.wt else []) (fun k i=>by
  cases h k i with
  | base=>exact Uh ..
  | @step n _ _ ha=>
   obtain ⟨d,h1,h2⟩:=ha;refine Fg _ (Tk.2 ?_);rcases h1 with ⟨r,_,rfl⟩ | ⟨m,L,a,f,e,c,b⟩
   · simp [qa] at h2
   refine ⟨m,a,?_⟩;have hx:∃ d,Xc E m.nm d:=⟨d,.inr ⟨m,L,a,rfl,e,c,by rw [f];exact b⟩⟩;rw [dif_pos hx];have:hx.choose=d:=Ki hE hx.choose_spec (.inr ⟨m,L,a,rfl,e,c,by rw [f];exact b⟩);rw [this];exact h2)
 have:=NG (fun m:M3=>if h:∃ d,Xc E m.nm d then qa h.choose.ls h.choose.wt else []) 16 E.ms (fun m _=>by
  split
  · rename_i hx
    have:=(Vl hE hx.choose_spec).1;have:=Qy hx.choose.ls hx.choose.wt;omega
  simp)
 rw [u_] at key;omega
theorem uy:∀ a:List UInt8,Op.bytesLess a a=false
 | []=>by simp [Op.bytesLess]
 | x::r=>by simp [Op.bytesLess,uy r]
theorem Iu (a:ByteArray):lt a a=false:=uy _
theorem vE {a b c:ByteArray} (h:lt a b=true) (d:lt b c=true):lt a c=true:=Lh _ _ _ h d
def gp (l:List ByteArray):Prop:=l.Pairwise fun a b=>lt a b=true
theorem yj {l:List ByteArray} (h:gp l):l.Nodup:=by
 refine List.Pairwise.imp (fun {a b} hab e=>?_) h;rw [e,Iu] at hab;cases hab
theorem UE:∀ {l l':List ByteArray},gp l->gp l'->(∀ k,k∈l↔k∈l')->l=l'
 | [],[],_,_,_=>rfl
 | [],b::r,_,_,h=>by have:=(h b).2 (Uh ..);cases this
 | a::r,[],_,_,h=>by have:=(h a).1 (Uh ..);cases this
 | a::r,b::s,h1,h2,h=>by
  have g:=uo.1 h1;have f:=uo.1 h2;have j:a=b:=by
   rcases D_.1 ((h a).1 (Uh ..)) with e | m
   · exact e
   rcases D_.1 ((h b).2 (Uh ..)) with e | i
   · exact e.symm
   have:=vE (g.1 b i) (f.1 a m);rw [Iu] at this;cases this
  subst j;rw [UE g.2 f.2 fun k=>?_];constructor
  · intro c
    rcases D_.1 ((h k).1 (Fg _ c)) with e | d
    · have:=g.1 k c
      rw [e,Iu] at this;cases this
    exact d
  intro c;rcases D_.1 ((h k).2 (Fg _ c)) with e | d
  · have:=f.1 k c
    rw [e,Iu] at this;cases this
  exact d
structure Wh (E:Env) (n0:ByteArray) (ds:List Dd):Prop where
 NV:gp (ds.map (·.nm))
 ok:∀ d∈ds,Xc E d.nm d
 mem:∀ k,k∈ds.map (·.nm)↔Js E n0 k
theorem xE {E:Env} (hE:Y7 E) {n0:ByteArray} {ds ds':List Dd} (h:Wh E n0 ds) (a:Wh E n0 ds'):ds=ds':=by
 have e:=UE h.NV a.NV (fun k=>(h.mem k).trans (a.mem k).symm);have d:ds.length=ds'.length:=by simpa using V3 List.length e
 refine List.ext_getElem d fun i h1 h2=>?_;have b:(ds.map (·.nm))[i]?=(ds'.map (·.nm))[i]?:=by rw [e]
 rw [Kb,Kb,F8 h1,F8 h2] at b;have c:ds[i].nm=ds'[i].nm:=j6 b;have k:=a.ok _ (Ea h2);rw [<- c] at k;exact Ki hE (h.ok _ (Ea h1)) k
theorem fE {E:Env} (hE:Y7 E) (a:E.ms.length<=30) {n0:ByteArray} {ds:List Dd} (h:Wh E n0 ds):ds.length<=481:=by
 have:=El hE a (yj h.NV) (fun k b=>(h.mem k).1 b);simpa using this
open G.T (lt)
variable {w:World} {l:List ByteArray} {b s:ByteArray}
def We (l:List ByteArray):List Value:=l.map .string
theorem Bp (l:List ByteArray):∀ u∈We l,u.oneCell'=true:=fun u a=>by
 obtain ⟨s,_,rfl⟩:=D9.1 a;rfl
def Nr (w:World) (a:Option Addr) (l:List ByteArray):Prop:=l=[]\/∃ b off,a=some ⟨b,off,none⟩/\b<w.heap.size/\∀ i,i<l.length->w.cell? ⟨b,off+i,none⟩=some (.string (l.getD i ⟨#[]⟩))
theorem Sq {a:Option Addr} (h:Nr w a l):∃ b c,(l=[]\/(a=some ⟨b,c,none⟩/\b<w.heap.size/\∀ i,i<l.length->w.cell? ⟨b,c+i,none⟩=some (.string (l.getD i ⟨#[]⟩)))):=by
 rcases h with h | ⟨b,c,h⟩
 · exact ⟨0,0,.inl h⟩
 exact ⟨b,c,.inr h⟩
theorem xe {base:Nat} {v:Value} (h:w.ownsRow base 9 1 v l.length (We l)):∃ a c,v=.slice a l.length c/\Nr w a l:=by
 obtain ⟨a,c,h1,h2⟩:=Wm h;refine ⟨a,c,h1,?_⟩
 cases l with
 | nil=>exact .inl rfl
 | cons x r=>
  obtain ⟨g,b,h0⟩:=h2 0 (.string x) rfl;subst b;refine .inr ⟨g,0,rfl,?_,fun i d=>?_⟩
  · exact (h.lt g (by rw [h1];rfl)).2
  obtain ⟨g',b,e⟩:=h2 i (.string ((x::r).getD i ⟨#[]⟩)) (by
   unfold We;rw [Kb,F8 d];simp [List.getD,F8 d])
  injection b with b;injection b with b;subst b;rw [R7];exact e
def Ox (l:List ByteArray) (s:ByteArray):Bool:=l.any fun x=>decide (x=s)
theorem Ke:Ox l s=true↔s∈l:=by
 simp [Ox]
theorem KQ (a:Option Addr) (cap:Nat) (l:List ByteArray) (s:ByteArray) (w:World) (hl:l.length<=1000) (r:Nr w a l):
 Calls Tryz.prog 88 #[.slice a l.length cap,.string s] w fun e w'=>e=.returned (.bool (Ox l s))/\w'=w:=by
 obtain ⟨b,off,q⟩:=Sq r;have z:=Q0 q;clear r q;go_enter Tryz.func88,Tryz.ntmps88
 go_wp2_with fail
 go_loopw [5] (fun f wr=>∃ k:Nat,k<=l.length/\f=.int .i64 k/\wr=w/\Hid (∀ j,j<k->l.getD j ⟨#[]⟩≠s)) (fun f _=>l.length - (intOf f).toNat)
 case atStart=>exact ⟨0,I5 _,rfl,rfl,fun j h=>absurd h (F5 _)⟩
 obtain ⟨k,hk,rfl,rfl,c⟩:=hrel;by_cases d:k<l.length;rotate_left
 · have i:Hid (Ox l s=false):=by
    show _=_;rw [<- Bool.not_eq_true,Ke];intro u;obtain ⟨j,o,rfl⟩:=Lb u;exact c.out j O0 (by simp [List.getD,F8 o])
   clear c;go_wp2;go_ret;exact ⟨by rw [i.out];rfl,rfl⟩
 rcases z.out with t | ⟨v,hbw,p⟩
 · rw [t] at d;exact absurd d (F5 _)
 subst v;have g0:=p k d;have m:Hid (l.getD k ⟨#[]⟩∈l):=by show _∈_;simp [List.getD,F8 d]
 have n:Hid (l.getD k ⟨#[]⟩≠s->∀ j,j<k+1->l.getD j ⟨#[]⟩≠s):=fun h j o=>by
  rcases U5 j k with h1 | h1
  · exact c.out j h1
  obtain rfl:j=k:=O0;exact h
 generalize l.getD k ⟨#[]⟩=x at*;clear p;cases hq:(x.toList==s.toList);rotate_left
 · have g:x=s:=by
    have:=Vf.1 hq;rw [I7,I7] at this;exact Hd (ag.1 this)
   subst g;have i:=Q0 (Ke.2 m.out);clear n c m;go_wp2;go_ret;exact ⟨by rw [i.out];rfl,rfl⟩
 have g:x≠s:=fun e=>by rw [e] at hq;simp at hq
 have y:=Q0 (n.out g);clear n c m;go_wp2;go_roundw
 case rel=>exact ⟨k+1,O0,by go_num,trivial,y⟩
 case measure=>simp [intOf];omega
def kP:List ByteArray->ByteArray->Nat
 | [],_=>0
 | a::r,s=>if lt a s=true then kP r s+1 else 0
def Ff (l:List ByteArray) (s:ByteArray):List ByteArray:=if l[kP l s]?=some s then l else l.take (kP l s)++[s]++l.drop (kP l s)
theorem RJ:∀ (l:List ByteArray) (s:ByteArray),kP l s<=l.length
 | [],_=>Q6 _
 | a::r,s=>by
  unfold kP;have:=RJ r s;split <;> simp <;> omega
theorem UF:∀ (l:List ByteArray) (s:ByteArray) (k:Nat),k<=l.length->(∀ j,j<k->lt (l.getD j ⟨#[]⟩) s=true)->(k<l.length->lt (l.getD k ⟨#[]⟩) s=false)->kP l s=k
 | [],s,k,h,_,_=>by simp at h;subst h;rfl
 | a::r,s,0,_,_,h3=>by
  have:=h3 X0;have:lt a s=false:=this;unfold kP;rw [R3 (by rw [this];simp)]
 | a::r,s,k+1,h1,h2,h3=>by
  have h0:lt a s=true:=h2 0 O0;unfold kP;rw [Y3 h0,UF r s k (by simpa using h1) (fun j hj=>h2 (j+1) O0) (fun h=>h3 (by simpa using h))]
theorem lK:∀ (l:List ByteArray) (s:ByteArray) (j:Nat),j<kP l s->lt (l.getD j ⟨#[]⟩) s=true
 | [],_,_,h=>by simp [kP] at h
 | a::r,s,j,h=>by
  unfold kP at h;split at h
  · cases j with
    | zero=>assumption
    | succ j=>exact lK r s j O0
  omega
theorem AJ:∀ (l:List ByteArray) (s:ByteArray),kP l s<l.length->lt (l.getD (kP l s) ⟨#[]⟩) s=false
 | [],_,h=>by simp at h
 | a::r,s,h=>by
  unfold kP at h ⊢;by_cases b:lt a s=true
  · rw [Y3 b] at h ⊢
    exact AJ r s (by simpa using h)
  rw [R3 b];simpa using b
theorem Oe (l:List ByteArray) (s k:ByteArray):k∈Ff l s↔k∈l\/k=s:=by
 unfold Ff;split
 · rename_i h
   exact ⟨.inl,fun a=>a.elim id fun e=>e▸su h⟩
 rw [P8,P8,R9];have:k∈l↔k∈l.take (kP l s)\/k∈l.drop (kP l s):=by rw [<- P8,Io]
 rw [this];constructor
 · rintro ((h | h) | h)
   · exact .inl (.inl h)
   · exact .inr h
   exact .inl (.inr h)
 rintro ((h | h) | h)
 · exact .inl (.inl h)
 · exact .inr h
 exact .inl (.inr h)
theorem MG (l:List ByteArray) (s:ByteArray):l.length<=(Ff l s).length/\(Ff l s).length<=l.length+1:=by
 unfold Ff;split
 · omega
 simp;omega
theorem Gy:∀ a b:List UInt8,a≠b->Op.bytesLess a b=false->Op.bytesLess b a=true
 | [],[],h,_=>absurd rfl h
 | [],_::_,_,h=>by simp [Op.bytesLess] at h
 | _::_,[],_,_=>by simp [Op.bytesLess]
 | x::r,y::s,h,h'=>by
  simp only [Op.bytesLess] at h' ⊢;by_cases e:x=y
  · subst e
    have:=Gy r s (fun c=>h (by rw [c])) (by simpa using h');simpa using this
  have e1:x.toNat≠y.toNat:=fun c=>e (Hg.1 c);simp [e,Ne.symm e,UInt8.lt_iff_toNat_lt] at h' ⊢;omega
theorem eu {a:ByteArray} (h:a≠b) (d:lt a b=false):lt b a=true:=Gy _ _ (fun c=>h (by rw [I7,I7] at c;exact Hd (ag.1 c))) d
theorem gH (h:gp l) (s:ByteArray):gp (Ff l s):=by
 unfold Ff;split
 · exact h
 rename_i g;have k:gp (l.take (kP l s)++l.drop (kP l s)):=by rw [Io];exact h
 obtain ⟨h1,h2,h3⟩:=Ar.1 k;have o:∀ a∈l.take (kP l s),lt a s=true:=fun a d=>by
  obtain ⟨j,hj,rfl⟩:=Lb d;have n:j<kP l s:=by have:=Tv (kP l s) l;omega
  have:=lK l s j n;have m:j<l.length:=by have:=RJ l s;omega
  rw [QA];simpa [List.getD,F8 m] using this
 have hB:∀ b∈l.drop (kP l s),lt s b=true:=fun b c=>by
  have f:kP l s<l.length:=by
   rcases U5 (kP l s) l.length with h | h
   · exact h
   rw [Wj h] at c;cases c
  have h0:=AJ l s f;rw [show l.getD (kP l s) ⟨#[]⟩=l[kP l s] by simp [List.getD,F8 f]] at h0;rw [F8 f] at g;have i:=eu (fun e=>g (by rw [e])) h0;rw [Vs f] at c h2;rcases D_.1 c with rfl | c
  · exact i
  exact vE i ((uo.1 h2).1 b c)
 refine Ar.2 ⟨Ar.2 ⟨h1,jr _ _,fun a d b c=>?_⟩,h2,fun a d b c=>?_⟩
 · rw [R9.1 c];exact o a d
 rcases P8.1 d with d | d
 · exact h3 a d b c
 rw [R9.1 d];exact hB b c
end Go.Proofs.YtdjaajjndfbpmaaGreatDoor
