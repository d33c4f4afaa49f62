import Derived.Test.YtkccjgajimjjdaaGreatDoorR1
import Derived.Test.YtkccjgajimjjdaaGreatDoorzC
set_option maxHeartbeats 8000000
set_option maxRecDepth 100000
set_option linter.unusedVariables false
namespace Go.Proofs.YtkccjgajimjjdaaGreatDoor
open Proofs.Tryz Go.RowKit
structure yZ(w:World)(M E:List Value)(u:World):Prop where
 b:Bw w u
 hm:Cl u w.heap.size 62 M
 he:Cl u (w.heap.size+1) 74 E
 hr:Cl u (w.heap.size+1+1) 62 [.int .i64 0,.int .i64 0,.slice none 0 0,.int .i64 0,.slice none 0 0,.slice none 0 0]
section
variable{w u u' z:World}{b0 B j:Nat}{m:MS}{x:z_}{vs M E:List Value}
theorem yZ.below(h:yZ w M E u)(a:Bw u u'):yZ w M E u':=⟨h.b.trans (a.mono h.b.size),h.hm.below a h.hm.lt,h.he.below a h.he.lt,h.hr.below a h.hr.lt⟩
theorem yZ.put(h:yZ w M E u)(j:Nat)(v:Value):yZ w (M.set j v) E (u.setCell ⟨w.heap.size,j,none⟩ v):=
 have o:=O_ u w.heap.size j v
 ⟨h.b.trans (o.below X7),h.hm.set j v,h.he.on o O0,h.hr.on o O0⟩
theorem Ey.put(h:Ey u b0 m vs)(hB:Cl u B 62 M)(v:Value):Ey (u.setCell ⟨B,j,none⟩ v) b0 m vs:=h.keep (λq t hT ht=>(O_ u B j v).block q (λe=>ht (Z8 (e▸hT) (K_ hB))))
def a2v(w:World)(b0:Nat)(m:MS)(x:z_)(e:Ending)(w':World):Prop:=∃vs,e=.returned (.tuple #[.agg vs.toArray,.bool (dn m x).isSome])/\vs.length=6/\(∀v∈vs,v.oneCell'=true)/\(∀m',dn m x=some m'->Ey w' b0 m' vs)
theorem je{a b c d e f:Value}(ha:a.oneCell'=true)(hb:b.oneCell'=true)(hc:c.oneCell'=true)(hd:d.oneCell'=true)(he:e.oneCell'=true)(hf:f.oneCell'=true):∀v∈[a,b,c,d,e,f],v.oneCell'=true:=λv hv=>by
 simp at hv;rcases hv with rfl|rfl|rfl|rfl|rfl|rfl<;>assumption
theorem eu{a:Array Value}{r:Bool}(h:yZ w vs E u)(j:Cl z (w.heap.size+1+1) 62 vs)(c:Jr (w.heap.size+1+1) u z)(hl:vs.length=6)(h1:∀v∈vs,v.oneCell'=true)(hd:(dn m x).isSome=r)(i:∀m',dn m x=some m'->Ey u b0 m' vs)(f:a.getD 4 undef=.pointer (some ⟨w.heap.size+1+1,0,none⟩))(d:a.getD 5 undef=.bool r):bodyPost prog f71 (λe w'=>a2v w b0 m x e w'/\Bw w w') .ret ⟨a,[]⟩ z:=
 Q7 (v:=.tuple #[.agg vs.toArray,.bool r]) (Za rfl a z (w.heap.size+1+1) vs (.bool r) _ f d j.blk underlying62 rfl (by rw[hl];kernel_rfl)) rfl ⟨⟨vs,by rw[hd],hl,h1,λm' g=>(i m' g).keep (λq t hT ht=>c.block q (λe=>ht (Z8 (e▸hT) (K_ h.hr))))⟩,h.b.trans (c.below O0)⟩
end
section
variable{m:MS}{n c:Int}{a b t:BY}{km:M3}{ls:List L4}
theorem VZ:dn m (J9 n)=if n=m.ep+1 then some ⟨n,m.fs,m.s⟩ else none:=rfl
theorem MX:dn m (Lc a b)=(yN m.fs ⟨a,b⟩).map λgs=>⟨m.ep,gs,m.s⟩:=rfl
theorem FY:dn m (Ec a)=(drF m.fs a).map λgs=>⟨m.ep,gs,m.s⟩:=rfl
theorem a1v:dn m (Qg km ls c t)=if (Aa m.s km ls c t).2=0 then some ⟨m.ep,m.fs,(Aa m.s km ls c t).1⟩ else none:=rfl
theorem a2Q:dn m Va=some ⟨m.ep,m.fs,⟨m.s.wd,[],[]⟩⟩:=rfl
end
theorem Gt{W:Int}(h:1<=W/\W<=8):Bh ⟨W,[],[]⟩:=⟨h,⟨by show(0:Nat)<=300;omega,λk a=>absurd a (y9 _)⟩,by show(0:Nat)<=150;omega,λk a=>absurd a (y9 _)⟩
theorem nX{s:St}{m:M3}{ls:List L4}{c:Int}{t:BY}(h:Bh s)(a:(Aa s m ls c t).2=0):Bh (Aa s m ls c t).1:=by
 obtain⟨d,b⟩:=uz (m:=m) (ls:=ls) (c:=c) (t:=t) h;by_cases hc:x_ s.wd s.ts s.rs m ls c t=0
 ·rw[d hc];exact DK h hc
 rw[b hc]at a;exact absurd a hc
theorem AV{s:St}{m:M3}{ls:List L4}{c:Int}{t:BY}(h:Bh s)(a:(Aa s m ls c t).2=0):(Aa s m ls c t).1.wd=s.wd:=by
 obtain⟨d,b⟩:=uz (m:=m) (ls:=ls) (c:=c) (t:=t) h;by_cases hc:x_ s.wd s.ts s.rs m ls c t=0
 ·rw[d hc]
 rw[b hc]at a;exact absurd a hc
theorem Ey.parts{w:World}{b0:Nat}{m:MS}{a b c d e:Value}{fv:Value}(h:Ey w b0 m [a,b,fv,c,d,e]):w.ownsRow b0 67 2 fv m.fs.length (T.U3 m.fs)/\Z_ w b0 m.s.ts m.s.rs d e:=by
 obtain⟨q1,q2,q3,f,i,g⟩:=h.ex;injection f with _ f;injection f with _ f;injection f with r1 f;injection f with _ f;injection f with r2 f;injection f with r3 f;subst r1 r2 r3;exact⟨i,g⟩
theorem c71(b0:Nat)(m:MS)(vs:List Value)(x:z_)(J:OA)(N:Nat)(w:World)(hM:Ey w b0 m vs)(Y:b0<=w.heap.size)(hx:N9 x)(L:x.le 1048576)(hlk:S9 w J x.ls):
 Calls prog 71 #[.agg vs.toArray,.agg (x.c J N).toArray] w λe w'=>a2v w b0 m x e w'/\Bw w w':=by
 obtain⟨fv,tv,rv,rfl,hf,U⟩:=hM.ex;obtain⟨fa,fc,rfl,hat⟩:=Ij hf;have HST:=U0 U;obtain⟨ta,tc,rfl⟩:=D9 U.1;obtain⟨_,vs0,hr0⟩:=U;obtain⟨ra,rc,rfl⟩:=D9 hr0.row;have k:=U0 hM;have HLK:=U0 hlk;have HAT:=U0 hat;have e0:=hM.ok.e0;have e1:=hM.ok.e1
 go_in
 go_upto_region 2 with fail
 obtain⟨W,Z⟩:∃W:World,W=((w.alloc (.cells #[.int .i64 0,.int .i64 m.ep,.slice fa m.fs.length fc,.int .i64 m.s.wd,.slice ta m.s.ts.length tc,.slice ra m.s.rs.length rc] 62)).alloc (.cells (x.c J N).toArray 74)).alloc (.cells #[.int .i64 0,.int .i64 0,.slice none 0 0,.int .i64 0,.slice none 0 0,.slice none 0 0] 62):=⟨_,rfl⟩;rw[<- Z];have H:Hid (yZ w [.int .i64 0,.int .i64 m.ep,.slice fa m.fs.length fc,.int .i64 m.s.wd,.slice ta m.s.ts.length tc,.slice ra m.s.rs.length rc] (x.c J N) W):=by
  rw[Z];exact⟨(Y6.alloc E5 _).alloc Q8 _,U8 (U8 (X4 w [_,_,_,_,_,_] 62) _) _,U8 (Ei E5) _,Ei (xs:=[.int .i64 0,.int .i64 0,.slice none 0 0,.int .i64 0,.slice none 0 0,.slice none 0 0]) E5⟩
 clear Z;have HS:=U0 (k.out.below H.out.b);have F:=H.out.he.cell 0;rcases hx with⟨n,hn,rfl⟩|⟨a,b,h,rfl⟩|⟨a,h,rfl⟩|⟨km,ls,c,t,h,rfl⟩|rfl
 ·have E:=H.out.he.cell 1;have m1:=H.out.hm.cell 1;have mf:=H.out.hm.opn 1;dsimp only[J9,z_.c,List.getElem?_cons_zero,List.getElem?_cons_succ]at F E m1;by_cases hne:n=m.ep+1;rotate_left
  ·have f:Hid (dn m (J9 n)=none):=Y7 hne
   go_upto_region 5 with fail
   go_wp2_with(first|(refine Oe H.out.hm rfl 62 _ rfl rfl underlying62 rfl Y1 ?_)|(refine I7 rfl 62 _ _ rfl (j:=0) rfl rfl H.out.hr X7 (je rfl rfl rfl rfl rfl rfl) Y1 ?_;intro z o l))
   exact eu H.out o l rfl (je rfl rfl rfl rfl rfl rfl) (by rw[f.out];rfl) (λm' c=>by rw[f.out]at c;cases c) rfl rfl
  obtain rfl:=hne;have f:Hid (dn m (J9 (m.ep+1))=some ⟨m.ep+1,m.fs,m.s⟩):=by show _=_;exact VZ.trans (L8 rfl)
  have d:=U0 (H.out.put 1 (.int .i64 (m.ep+1)));have r:Hid (Ey (W.setCell ⟨w.heap.size,1,none⟩ (.int .i64 (m.ep+1))) b0 ⟨m.ep+1,m.fs,m.s⟩ [.int .i64 0,.int .i64 (m.ep+1),.slice fa m.fs.length fc,.int .i64 m.s.wd,.slice ta m.s.ts.length tc,.slice ra m.s.rs.length rc]):=by
   have h:=HS.out.put (j:=1) H.out.hm (.int .i64 (m.ep+1));obtain⟨q5,q6⟩:=h.parts;exact⟨⟨by show 0<=m.ep+1;omega,hn.2,h.ok.fl,h.ok.fz,h.ok.st⟩,_,_,_,rfl,q5,q6⟩
  go_upto_region 15 with fail
  dsimp only[List.set_cons_succ,List.set_cons_zero]at d;generalize W.setCell ⟨w.heap.size,1,none⟩ (.int .i64 (m.ep+1))=V at*
  go_wp2_with(first|(refine Oe d.out.hm rfl 62 _ rfl rfl underlying62 rfl Y1 ?_)|(refine I7 rfl 62 _ _ rfl (j:=0) rfl rfl d.out.hr X7 (je rfl rfl rfl rfl rfl rfl) Y1 ?_;intro z o l))
  exact eu d o l rfl (je rfl rfl rfl rfl rfl rfl) (by rw[f.out];rfl) (λm' c=>by rw[f.out]at c;cases c;exact r.out) rfl rfl
 ·have E:=H.out.he.cell 2;have S:=H.out.he.cell 3;have R:=H.out.hm.cell 2;have HX4:Hid ((⟨a,b⟩:T.F2).le 4000):=⟨by have:=WT h.1;show a.size<=4000;omega,by show b.size<=4000;omega⟩;dsimp only[Lc,z_.c,List.getElem?_cons_zero,List.getElem?_cons_succ]at F E S R
  go_upto_region 8 with fail
  go_wp2_with fail
  refine(T.a4K fa fc m.fs ⟨a,b⟩ W (by have:=k.out.ok.fl;omega) k.out.ok.fz HX4 (T.U5 HAT H.out.b)).mono ?_;rintro e w1⟨⟨v,cd,gs,rfl,ho,_,_,hR⟩,y⟩;obtain⟨q,p,rfl⟩:=D9 ho;have g:=U0 (H.out.below y);have d2:=g.out.hm.cell 2;have f2:=g.out.hm.opn 2;simp only[gz]at d2
  go_upto_region 15 with fail
  have d:=U0 (g.out.put 2 (.slice q gs.length p));dsimp only[List.set_cons_succ,List.set_cons_zero]at d;have r:Hid (cd=0->Ey (w1.setCell ⟨w.heap.size,2,none⟩ (.slice q gs.length p)) b0 ⟨m.ep,gs,m.s⟩ [.int .i64 0,.int .i64 m.ep,.slice q gs.length p,.int .i64 m.s.wd,.slice ta m.s.ts.length tc,.slice ra m.s.rs.length rc]):=λhc=>by
   subst hc;have I:=zC hR k.out.ok.fz;have h:Ey w1 b0 ⟨m.ep,gs,m.s⟩ [.int .i64 0,.int .i64 m.ep,.slice q gs.length p,.int .i64 m.s.wd,.slice ta m.s.ts.length tc,.slice ra m.s.rs.length rc]:=⟨⟨e0,e1,I.1,I.2,k.out.ok.st⟩,_,_,_,rfl,P7 ho (I8 Y H.out.b.size),(k.out.below g.out.b).parts.2⟩;exact h.put g.out.hm _
  have u:Hid (dn m (Lc a b)=if cd=0 then some ⟨m.ep,gs,m.s⟩ else none):=by
   show _=_;by_cases hc:cd=0
   ·subst hc;rw[L8 rfl];rw[MX,DT hR];rfl
   rw[Y7 hc];rw[MX,DU hR hc];rfl
  generalize w1.setCell ⟨w.heap.size,2,none⟩ (.slice q gs.length p)=V at*;by_cases hc:cd=0
  ·subst hc;have f:=U0 (u.out.trans (L8 rfl))
   go_wp2_with(first|(refine Oe d.out.hm rfl 62 _ rfl rfl underlying62 rfl Y1 ?_)|(refine I7 rfl 62 _ _ rfl (j:=0) rfl rfl d.out.hr X7 (je rfl rfl rfl rfl rfl rfl) Y1 ?_;intro z o l))
   exact eu d o l rfl (je rfl rfl rfl rfl rfl rfl) (by rw[f.out];rfl) (λm' c=>by rw[f.out]at c;cases c;exact r.out E5) rfl rfl
  have hc':(cd==0)=false:=by simpa using hc
  have f:=U0 (u.out.trans (Y7 hc))
  go_wp2_with(first|(refine Oe d.out.hm rfl 62 _ rfl rfl underlying62 rfl Y1 ?_)|(refine I7 rfl 62 _ _ rfl (j:=0) rfl rfl d.out.hr X7 (je rfl rfl rfl rfl rfl rfl) Y1 ?_;intro z o l))
  exact eu d o l rfl (je rfl rfl rfl rfl rfl rfl) (by rw[f.out];rfl) (λm' c=>by rw[f.out]at c;cases c) rfl rfl
 ·have E:=H.out.he.cell 2;have S:=H.out.he.cell 3;have R:=H.out.hm.cell 2;have HFZ:Hid (∀i,(m.fs.getD i T.G9).le 1048576):=λi=>⟨I8 (k.out.ok.fz i).1 Z5,I8 (k.out.ok.fz i).2 Z5⟩;dsimp only[Ec,z_.c,List.getElem?_cons_zero,List.getElem?_cons_succ]at F E S R
  go_upto_region 10 with fail
  go_wp2_with fail
  refine(T.c130 fa fc m.fs a W (by have:=k.out.ok.fl;omega) HFZ (T.U5 HAT H.out.b)).mono ?_;rintro e w1⟨⟨v,cd,gs,rfl,ho,hR⟩,y⟩;obtain⟨q,p,rfl⟩:=D9 ho;have g:=U0 (H.out.below y);have d2:=g.out.hm.cell 2;have f2:=g.out.hm.opn 2;simp only[gz]at d2
  go_upto_region 15 with fail
  have d:=U0 (g.out.put 2 (.slice q gs.length p));dsimp only[List.set_cons_succ,List.set_cons_zero]at d;have r:Hid (cd=0->Ey (w1.setCell ⟨w.heap.size,2,none⟩ (.slice q gs.length p)) b0 ⟨m.ep,gs,m.s⟩ [.int .i64 0,.int .i64 m.ep,.slice q gs.length p,.int .i64 m.s.wd,.slice ta m.s.ts.length tc,.slice ra m.s.rs.length rc]):=λhc=>by
   subst hc;have I:=UB hR k.out.ok.fz;have h:Ey w1 b0 ⟨m.ep,gs,m.s⟩ [.int .i64 0,.int .i64 m.ep,.slice q gs.length p,.int .i64 m.s.wd,.slice ta m.s.ts.length tc,.slice ra m.s.rs.length rc]:=⟨⟨e0,e1,I.1,I.2,k.out.ok.st⟩,_,_,_,rfl,P7 ho (I8 Y H.out.b.size),(k.out.below g.out.b).parts.2⟩;exact h.put g.out.hm _
  have u:Hid (dn m (Ec a)=if cd=0 then some ⟨m.ep,gs,m.s⟩ else none):=by
   show _=_;by_cases hc:cd=0
   ·subst hc;rw[L8 rfl];rw[FY,qZ hR];rfl
   rw[Y7 hc];rw[FY,XY hR hc];rfl
  generalize w1.setCell ⟨w.heap.size,2,none⟩ (.slice q gs.length p)=V at*;by_cases hc:cd=0
  ·subst hc;have f:=U0 (u.out.trans (L8 rfl))
   go_wp2_with(first|(refine Oe d.out.hm rfl 62 _ rfl rfl underlying62 rfl Y1 ?_)|(refine I7 rfl 62 _ _ rfl (j:=0) rfl rfl d.out.hr X7 (je rfl rfl rfl rfl rfl rfl) Y1 ?_;intro z o l))
   exact eu d o l rfl (je rfl rfl rfl rfl rfl rfl) (by rw[f.out];rfl) (λm' c=>by rw[f.out]at c;cases c;exact r.out E5) rfl rfl
  have hc':(cd==0)=false:=by simpa using hc
  have f:=U0 (u.out.trans (Y7 hc))
  go_wp2_with(first|(refine Oe d.out.hm rfl 62 _ rfl rfl underlying62 rfl Y1 ?_)|(refine I7 rfl 62 _ _ rfl (j:=0) rfl rfl d.out.hr X7 (je rfl rfl rfl rfl rfl rfl) Y1 ?_;intro z o l))
  exact eu d o l rfl (je rfl rfl rfl rfl rfl rfl) (by rw[f.out];rfl) (λm' c=>by rw[f.out]at c;cases c) rfl rfl
 ·have k4:=H.out.he.cell 4;have k5:=H.out.he.cell 5;have k6:=H.out.he.cell 6;have k7:=H.out.he.cell 7;have k8:=H.out.he.cell 8;have k9:=H.out.he.cell 9;have Q:=H.out.hm.cell 3;have P:=H.out.hm.cell 4;have O:=H.out.hm.cell 5;dsimp only[Qg,z_.c,List.getElem?_cons_zero,List.getElem?_cons_succ]at F k4 k5 k6 k7 k8 k9 Q P O;have X:=c131 m.s km ls c t b0 ta ra J tc rc N W (BL k.out.ok.st) L.2.2.1 L.2.2.2.1.1 L.2.2.2.1.2 L.2.2.2.2 HS.out.parts.2 (U7 HLK H.out.b);have HKS:=U0 (nX (m:=km) (ls:=ls) (c:=c) (t:=t) k.out.ok.st);have HKW:=U0 (AV (m:=km) (ls:=ls) (c:=c) (t:=t) k.out.ok.st);have u:Hid (dn m (Qg km ls c t)=_):=a1v;unfold Dw at X;generalize Aa m.s km ls c t=K at*
  go_upto_region 12 with fail
  go_wp2_with fail
  refine X.mono ?_;rintro e w1⟨⟨B,A,D,C,rfl,ho⟩,y⟩;have g:=U0 (H.out.below y);have d3:=g.out.hm.cell 3;have d4:=g.out.hm.cell 4;have d5:=g.out.hm.cell 5;have f3:=g.out.hm.opn 3;have f4:=g.out.hm.opn 4;have f5:=g.out.hm.opn 5;simp only[gz]at d3 d4 d5
  go_upto_region 15 with fail
  have d:=U0 (((g.out.put 3 (.int .i64 K.1.wd)).put 4 (.slice B K.1.ts.length A)).put 5 (.slice D K.1.rs.length C));dsimp only[List.set_cons_succ,List.set_cons_zero]at d;have r:Hid (K.2=0->Ey (((w1.setCell ⟨w.heap.size,3,none⟩ (.int .i64 K.1.wd)).setCell ⟨w.heap.size,4,none⟩ (.slice B K.1.ts.length A)).setCell ⟨w.heap.size,5,none⟩ (.slice D K.1.rs.length C)) b0 ⟨m.ep,m.fs,K.1⟩ [.int .i64 0,.int .i64 m.ep,.slice fa m.fs.length fc,.int .i64 K.1.wd,.slice B K.1.ts.length A,.slice D K.1.rs.length C]):=λhc=>by
   have h:Ey w1 b0 ⟨m.ep,m.fs,K.1⟩ [.int .i64 0,.int .i64 m.ep,.slice fa m.fs.length fc,.int .i64 K.1.wd,.slice B K.1.ts.length A,.slice D K.1.rs.length C]:=⟨⟨e0,e1,k.out.ok.fl,k.out.ok.fz,HKS hc⟩,_,_,_,rfl,(k.out.below g.out.b).parts.1,Be ho (I8 Y H.out.b.size)⟩;exact((h.put g.out.hm _).put (g.out.put 3 _).hm _).put ((g.out.put 3 _).put 4 _).hm _
  clear y d3 d4 d5 f3 f4 f5 g ho X;generalize ((w1.setCell ⟨w.heap.size,3,none⟩ (.int .i64 K.1.wd)).setCell ⟨w.heap.size,4,none⟩ (.slice B K.1.ts.length A)).setCell ⟨w.heap.size,5,none⟩ (.slice D K.1.rs.length C)=V at*;obtain⟨cd,hcd⟩:∃cd,cd=K.2:=⟨_,rfl⟩;rw[<- hcd]at u r ⊢;clear hcd;by_cases hc:cd=0
  ·subst hc;have f:=U0 (u.out.trans (L8 rfl));clear u
   go_wp2_with(first|(refine Oe d.out.hm rfl 62 _ rfl rfl underlying62 rfl Y1 ?_)|(refine I7 rfl 62 _ _ rfl (j:=0) rfl rfl d.out.hr X7 (je rfl rfl rfl rfl rfl rfl) Y1 ?_;intro z o l))
   exact eu d.out o l rfl (je rfl rfl rfl rfl rfl rfl) (by rw[f.out];rfl) (λm' c=>by rw[f.out]at c;cases c;exact r.out E5) rfl rfl
  have hc':(cd==0)=false:=by simpa using hc
  have f:=U0 (u.out.trans (Y7 hc))
  go_wp2_with(first|(refine Oe d.out.hm rfl 62 _ rfl rfl underlying62 rfl Y1 ?_)|(refine I7 rfl 62 _ _ rfl (j:=0) rfl rfl d.out.hr X7 (je rfl rfl rfl rfl rfl rfl) Y1 ?_;intro z o l))
  exact eu d o l rfl (je rfl rfl rfl rfl rfl rfl) (by rw[f.out];rfl) (λm' c=>by rw[f.out]at c;cases c) rfl rfl
 have Q:=H.out.hm.cell 3;have P:=H.out.hm.cell 4;have O:=H.out.hm.cell 5;have f3:=H.out.hm.opn 3;have f4:=H.out.hm.opn 4;have f5:=H.out.hm.opn 5;dsimp only[Va,z_.c,List.getElem?_cons_zero,List.getElem?_cons_succ]at F Q P O;have f:Hid (dn m Va=_):=a2Q
 go_upto_region 15 with fail
 have d:=U0 (((H.out.put 3 (.int .i64 m.s.wd)).put 4 (.slice none 0 0)).put 5 (.slice none 0 0));dsimp only[List.set_cons_succ,List.set_cons_zero]at d;have r:Hid (Ey (((W.setCell ⟨w.heap.size,3,none⟩ (.int .i64 m.s.wd)).setCell ⟨w.heap.size,4,none⟩ (.slice none 0 0)).setCell ⟨w.heap.size,5,none⟩ (.slice none 0 0)) b0 ⟨m.ep,m.fs,⟨m.s.wd,[],[]⟩⟩ [.int .i64 0,.int .i64 m.ep,.slice fa m.fs.length fc,.int .i64 m.s.wd,.slice none 0 0,.slice none 0 0]):=by
  have h:Ey W b0 ⟨m.ep,m.fs,⟨m.s.wd,[],[]⟩⟩ [.int .i64 0,.int .i64 m.ep,.slice fa m.fs.length fc,.int .i64 m.s.wd,.slice none 0 0,.slice none 0 0]:=⟨⟨e0,e1,k.out.ok.fl,k.out.ok.fz,Gt k.out.ok.st.1⟩,_,_,_,rfl,HS.out.parts.1,Kr _ _⟩;exact((h.put H.out.hm _).put (H.out.put 3 _).hm _).put ((H.out.put 3 _).put 4 _).hm _
 generalize ((W.setCell ⟨w.heap.size,3,none⟩ (.int .i64 m.s.wd)).setCell ⟨w.heap.size,4,none⟩ (.slice none 0 0)).setCell ⟨w.heap.size,5,none⟩ (.slice none 0 0)=V at*
 go_wp2_with(first|(refine Oe d.out.hm rfl 62 _ rfl rfl underlying62 rfl Y1 ?_)|(refine I7 rfl 62 _ _ rfl (j:=0) rfl rfl d.out.hr X7 (je rfl rfl rfl rfl rfl rfl) Y1 ?_;intro z o l))
 exact eu d o l rfl (je rfl rfl rfl rfl rfl rfl) (by rw[f.out];rfl) (λm' c=>by rw[f.out]at c;cases c;exact r.out) rfl rfl
end Go.Proofs.YtkccjgajimjjdaaGreatDoor
namespace Go.Proofs.YtkccjgajimjjdaaGreatDoor
open Proofs.Tryz Go.RowKit
def mZ(W:Int):MS:=⟨0,[],⟨W,[],[]⟩⟩
def qy(es:LB)(W:Int):Prop:=(1<=W/\W<=8)/\es.length<=1000
def Rp5(w:World)(es:LB)(W:Int)(e:Ending)(w':World):Prop:=∃vs,e=.returned (.agg vs.toArray)/\((¬qy es W/\vs=[.int .i64 1,.int .i64 0,.slice none 0 0,.int .i64 0,.slice none 0 0,.slice none 0 0])\/(qy es W/\∃o,NG RES es (mZ W) o/\((o=none/\vs=[.int .i64 2,.int .i64 0,.slice none 0 0,.int .i64 0,.slice none 0 0,.slice none 0 0])\/∃m,o=some m/\Ey w' w.heap.size m vs)))
structure Q5(w:World)(B:Nat)(m:MS)(vs:List Value)(u:World):Prop where
 b:Bw w u
 hB:w.heap.size<B
 hr:Cl u w.heap.size 62 [.int .i64 0,.int .i64 0,.slice none 0 0,.int .i64 0,.slice none 0 0,.slice none 0 0]
 hm:Cl u B 62 vs
 sp:Ey u w.heap.size m vs
section
variable{w u u' z:World}{m:MS}{vs:List Value}{es:LB}{W:Int}
theorem Q5.below{B:Nat}(h:Q5 w B m vs u)(a:Bw u u'):Q5 w B m vs u':=⟨h.b.trans (a.mono h.b.size),h.hB,h.hr.below a h.hr.lt,h.hm.below a h.hm.lt,h.sp.below a⟩
def upd(f:Nat->z_)(k:Nat)(x:z_):Nat->z_:=λj=>if j=k then x else f j
theorem XK{f:Nat->z_}{k:Nat}{x:z_}:upd f k x k=x:=L8 rfl
theorem PK{f:Nat->z_}{k j:Nat}{x:z_}(h:j<k):upd f k x j=f j:=Y7 O0
section
variable{R:List UInt8->z_->Bool->Prop}{m0 m m':MS}{f:Nat->z_}{k:Nat}{x:z_}
theorem Ny(hF:∀j,j<k->R (eL es j) (f j) true)(hR:rn f m0 k=some m)(hx:R (eL es k) x true)(hd:dn m x=some m'):(∀j,j<k+1->R (eL es j) (upd f k x j) true)/\rn (upd f k x) m0 (k+1)=some m':=by
 refine⟨λj a=>?_,?_⟩
 ·by_cases h:j=k
  ·subst h;rw[XK];exact hx
  rw[PK O0];exact hF j O0
 show(rn _ _ k).bind _=_;rw[Nl (g:=f) k (λj a=>PK a),hR];show dn m _=_;rw[XK];exact hd
theorem iU(b:k<es.length)(hF:∀j,j<k->R (eL es j) (f j) true)(hR:rn f m0 k=some m)(hx:R (eL es k) x true)(hd:dn m x=none):NG R es m0 none:=
 .inr ⟨rfl,k,upd f k x,m,b,λj a=>(by rw[PK a];exact hF j a),(Nl k (λj a=>PK a)).trans hR,.inr ⟨(by rw[XK];exact hx),(by rw[XK];exact hd)⟩⟩
theorem vZ(a:k<es.length)(hF:∀j,j<k->R (eL es j) (f j) true)(hR:rn f m0 k=some m)(hx:R (eL es k) Dj false):NG R es m0 none:=.inr ⟨rfl,k,f,m,a,hF,hR,.inl hx⟩
theorem aV(hF:∀j,j<es.length->R (eL es j) (f j) true)(hR:rn f m0 es.length=some m):NG R es m0 (some m):=.inl ⟨f,m,hF,hR,rfl⟩
end
theorem yQ{a b c d e f:Value}(h:vs.length=6):Nr [a,b,c,d,e,f] 0 vs=vs:=by
 unfold Nr;rw[h];simp
theorem a2z(h:1<=W/\W<=8):MOk (mZ W):=⟨by show(0:Int)<=0;omega,by show(0:Int)<=200;omega,by show(0:Nat)<=40;omega,λi=>⟨by show(0:Nat)<=4000;omega,by show(0:Nat)<=4000;omega⟩,Gt h⟩
theorem TT{a:Array Value}(n:Int)(hc:Cl u w.heap.size 62 [.int .i64 0,.int .i64 0,.slice none 0 0,.int .i64 0,.slice none 0 0,.slice none 0 0])(g:Cl z w.heap.size 62 vs)(b:Jr w.heap.size u z)(d:Bw w u)(hl:vs.length=6)(c:a.getD 4 undef=.pointer (some ⟨w.heap.size,0,none⟩))(f:∀z:World,(∀q t,Ah u q t->t≠62->z.heap[q]?=u.heap[q]?)->Rp5 w es W (.returned (.agg vs.toArray)) z):bodyPost prog f20 (λe w'=>Rp5 w es W e w'/\Bw w w') .ret ⟨a,[]⟩ z:=
 Q7 (v:=.agg vs.toArray) (J7 (P:=prog) (ty:=62) rfl a z w.heap.size vs _ c g.blk underlying62 rfl (by rw[hl];kernel_rfl)) rfl ⟨f z (λq t hT ht=>b.block q (λe=>ht (Z8 (e▸hT) (K_ hc)))),d.trans (b.below X7)⟩
end
theorem c20(a:OA)(cap:Nat)(es:LB)(W:Int)(w:World)(hl:es.length<=1048576)(hs:∀i,(es.getD i ByteArray.empty).size<=1048576)(hat:Z7 w a es):
 Calls prog 20 #[.slice a es.length cap,.int .i64 W] w λe w'=>Rp5 w es W e w'/\Bw w w':=by
 have HAT:=U0 hat;have HSZ:=U0 hs;clear hat hs
 go_in
 go_upto_region 1 with fail
 obtain⟨V,hV⟩:∃V:World,V=w.alloc (.cells #[vO,vO,vN,vO,vN,vN] 62):=⟨_,rfl⟩;rw[<- hV];have A:Bw w V:=by rw[hV];exact Y6
 have o:Hid (Cl V w.heap.size 62 [vO,vO,vN,vO,vN,vN]):=by show Cl _ _ _ _;rw[hV];exact X4 w [vO,vO,vN,vO,vN,vN] 62
 have hz:V.heap.size=w.heap.size+1:=by rw[hV];simp
 have HZ:=U0 hz;clear hV hz;have l:Hid (∀v∈([vI 1,vO,vN,vO,vN,vN]:List Value),v.oneCell'=true):=je rfl rfl rfl rfl rfl rfl;by_cases hw:1<=W/\W<=8;rotate_left
 ·have Y:Hid (¬qy es W):=λh=>hw h.1;have hd:=o_ hw
  go_wp2_with fail
  refine(QV W V).mono ?_;rintro e V1⟨rfl,O⟩;obtain rfl:=O.symm;rw[hd]
  go_wp2_with(refine I7 rfl 62 _ _ rfl (j:=0) rfl rfl o.out X7 l.out Y1 ?_;intro z g d)
  exact TT 1 o g d A rfl rfl (λz _=>⟨_,rfl,.inl ⟨Y,rfl⟩⟩)
 have hd:=X_ hw
 go_wp2_with fail
 refine(QV W V).mono ?_;rintro e V1⟨rfl,O⟩;obtain rfl:=O.symm;rw[hd];by_cases hbig:1000<es.length
 ·have Y:Hid (¬qy es W):=λh=>by have:=h.2;omega
  have K:(1000:Int)<es.length:=O0
  go_wp2_with(refine I7 rfl 62 _ _ rfl (j:=0) rfl rfl o.out X7 l.out Y1 ?_;intro z g d)
  exact TT 1 o g d A rfl rfl (λz _=>⟨_,rfl,.inl ⟨Y,rfl⟩⟩)
 have K:¬(1000:Int)<es.length:=O0;have X:Hid (qy es W):=⟨hw,O0⟩
 go_upto_region 4 with fail
 obtain⟨U,Q⟩:∃U:World,U=V.alloc (.cells #[vO,vO,vN,vI W,vN,vN] 62):=⟨_,rfl⟩;rw[<- Q];have HQ:Hid (Q5 w V.heap.size (mZ W) [vO,vO,vN,vI W,vN,vN] U):=by
  rw[Q];exact⟨A.alloc A.size _,by rw[HZ.out];omega,U8 o.out _,X4 V [_,_,_,_,_,_] 62,a2z hw,_,_,_,rfl,Y_ _ _ _ _,Kr _ _⟩
 clear Q o;generalize V.heap.size=B at*;clear A HZ hd;go_wp2;go_loopw[6] (λi wr=>∃(k:Nat)(f:Nat->z_)(m:MS)(vs:List Value),i=.int .i64 k/\k<=es.length/\Hid (∀j,j<k->RES (eL es j) (f j) true)/\Hid (rn f (mZ W) k=some m)/\Hid (Q5 w B m vs wr)) (λi _=>es.length-(RowKit.intOf i).toNat);exact⟨0,λ_=>Dj,_,_,rfl,J4 _,λj h=>absurd h (y9 _),rfl,HQ⟩;obtain⟨k,f,m,vs,rfl,hk,I,F,H⟩:=hrel;clear HQ;have hsp:=H.out.sp.ex;obtain⟨fv,tv,rv,rfl,hfo,hso⟩:=hsp;obtain⟨fa,fc,rfl⟩:=D9 hfo;obtain⟨ta,tc,rfl⟩:=D9 hso.1;obtain⟨_,vs0,hr0⟩:=hso;obtain⟨ra,rc,rfl⟩:=D9 hr0.row;clear hr0 hfo;have HLD:Hid (∀(q:Nat)(v:Value),([vO,vI m.ep,vL fa m.fs.length fc,vI m.s.wd,vL ta m.s.ts.length tc,vL ra m.s.rs.length rc]:List Value)[q]?=some v->wr.cell? (aA B (0+q))=some v):=λq v e=>by rw[o9];exact(H.out.hm.cell q).trans e
 by_cases J:k<es.length;rotate_left
 ·obtain rfl:k=es.length:=O0;have l:Hid (∀v∈([vO,vI m.ep,vL fa m.fs.length fc,vI m.s.wd,vL ta m.s.ts.length tc,vL ra m.s.rs.length rc]:List Value),v.oneCell'=true):=je rfl rfl rfl rfl rfl rfl
  go_wp2_with(first|(refine Vb rfl (d_ 62 _ rfl (B:=B) (j:=0) (cs:=[vO,vI m.ep,vL fa m.fs.length fc,vI m.s.wd,vL ta m.s.ts.length tc,vL ra m.s.rs.length rc]) rfl HLD.out underlying62 rfl Y1) ?_)|(refine I7 rfl 62 _ _ rfl (j:=0) rfl rfl H.out.hr X7 l.out Y1 ?_;intro z g d))
  exact TT 0 H.out.hr g d H.out.b rfl rfl (λz hz=>⟨_,rfl,.inr ⟨X,_,aV I F,.inr ⟨m,rfl,H.out.sp.keep hz⟩⟩⟩)
 obtain⟨b,off,hst⟩:=La (P6 HAT.out H.out.b);obtain⟨rfl,hbw,hce⟩:=Jd hst J;have hc0:=hce k J;clear hce;have HRD:=U0 (c70 (es.getD k ByteArray.empty) wr (HSZ k));have HEL:Hid ((es.getD k ByteArray.empty).data.toList=eL es k):=rfl;generalize es.getD k ByteArray.empty=s at*
 go_upto_region 7 with fail
 go_wp2_with fail
 refine HRD.out.mono ?_;rintro e w1⟨⟨x,ok,C,u,rfl,hx,hxz,hxl,hlk⟩,K⟩;rw[HEL.out]at hx;have H1:=U0 (H.out.below K);have D:=U0 hx;have HXZ:=U0 hxz;have HXL:=U0 hxl;have L:=U0 hlk;clear HRD hx hxz hxl hlk H hc0 HLD;dsimp only[z_.c]
 go_upto_region 8 with fail
 obtain⟨y,r⟩:∃q:World,q=w1.alloc (.cells (x.c C u).toArray 74):=⟨_,rfl⟩;have R:Bw w1 y:=by rw[r];exact Y6
 have CE:Hid (Cl y w1.heap.size 74 (x.c C u)):=by show Cl _ _ _ _;rw[r];exact X4 w1 _ 74
 dsimp only[z_.c]at r;rw[<- r];have H:=U0 (H1.out.below R);have L:=U0 (U7 L R);clear r R H1 K;generalize w1.heap.size=E at*;cases ok
 ·obtain⟨hz1,hz2,hz3⟩:=HXZ.out rfl;have HBAD:=U0 (hz1▸D.out);have l:Hid (∀v∈([vI 2,vO,vN,vO,vN,vN]:List Value),v.oneCell'=true):=je rfl rfl rfl rfl rfl rfl;clear hz1 hz2 hz3
  go_wp2_with(refine I7 rfl 62 _ _ rfl (j:=0) rfl rfl H.out.hr X7 l.out Y1 ?_;intro z g d)
  exact TT 2 H.out.hr g d H.out.b rfl rfl (λz hz=>⟨_,rfl,.inr ⟨X,_,vZ J I F HBAD,.inl ⟨rfl,rfl⟩⟩⟩)
 have HEN:=U0 (D.out.1 rfl).1;have HLM:Hid (∀(q:Nat)(v:Value),([vO,vI m.ep,vL fa m.fs.length fc,vI m.s.wd,vL ta m.s.ts.length tc,vL ra m.s.rs.length rc]:List Value)[q]?=some v->y.cell? (aA B (0+q))=some v):=λq v e=>by rw[o9];exact(H.out.hm.cell q).trans e
 have HLE:Hid (∀(q:Nat)(v:Value),(x.c C u)[q]?=some v->y.cell? (aA E (0+q))=some v):=λq v e=>by rw[o9];exact(CE.out.cell q).trans e
 have HC:=U0 (c71 w.heap.size m _ x C u y H.out.sp H.out.b.size HEN HXL L)
 go_upto_region 10 with fail
 go_wp2_with(first|(refine Vb rfl (d_ 62 _ rfl (B:=B) (j:=0) (cs:=[vO,vI m.ep,vL fa m.fs.length fc,vI m.s.wd,vL ta m.s.ts.length tc,vL ra m.s.rs.length rc]) rfl HLM.out underlying62 rfl Y1) ?_)|(refine Vb rfl (d_ 74 _ rfl (B:=E) (j:=0) (cs:=x.c C u) rfl HLE.out underlying74 rfl Y1) ?_))
 refine HC.out.mono ?_;rintro e Z⟨⟨p,rfl,P,ho2,hS2⟩,hb2⟩;have n:=U0 (H.out.below hb2);have HO2:=U0 ho2;have HS2:=U0 hS2;have HI2:Hid ((prog.info? 62).map (·.size)=some p.length):=by show _=_;rw[P];kernel_rfl
 have HL2:Hid (0+p.length<=([vO,vI m.ep,vL fa m.fs.length fc,vI m.s.wd,vL ta m.s.ts.length tc,vL ra m.s.rs.length rc]:List Value).length):=by show _<=_;rw[P];exact J8 _
 have HPL:Hid (Nr [vO,vI m.ep,vL fa m.fs.length fc,vI m.s.wd,vL ta m.s.ts.length tc,vL ra m.s.rs.length rc] 0 p=p):=yQ P;clear HC ho2 hS2 hb2 H HLM HLE CE L HXL
 go_upto_region 11 with(refine I7 rfl 62 _ _ rfl (j:=0) rfl rfl n.out.hm HL2.out HO2.out HI2.out ?_;intro z g d)
 rw[HPL.out]at g;have CZ:=U0 g;have S:=U0 (n.out.hr.on d (by have:=n.out.hB;omega));have BZ:=U0 (n.out.b.trans (d.below (Vt n.out.hB)));have KZ:Hid (∀q t,Ah Z q t->t≠62->z.heap[q]?=Z.heap[q]?):=λq t hT ht=>d.block q (λe=>ht (Z8 (e▸hT) (K_ n.out.hm)));have hBB:=n.out.hB;clear g d n HL2 HI2 HPL
 cases hd:dn m x with
 | none=>
  have N:=U0 hd;have l:Hid (∀v∈([vI 2,vO,vN,vO,vN,vN]:List Value),v.oneCell'=true):=je rfl rfl rfl rfl rfl rfl;clear hd
  go_wp2_with(refine I7 rfl 62 _ _ rfl (j:=0) rfl rfl S.out X7 l.out Y1 ?_;intro z2 cz2 oz2)
  exact TT 2 S cz2 oz2 BZ rfl rfl (λz hz=>⟨_,rfl,.inr ⟨X,_,iU J I F D N,.inl ⟨rfl,rfl⟩⟩⟩)
 | some m'=>
  have N:=U0 hd;have HSP:=U0 ((HS2 m' hd).keep KZ);clear hd HS2 KZ;go_wp2;go_roundw;exact⟨k+1,upd f k x,m',p,by go_num,O0,(Ny I.out F.out D.out N.out).1,(Ny I.out F.out D.out N.out).2,BZ.out,hBB,S.out,CZ.out,HSP.out⟩;exact Z9
end Go.Proofs.YtkccjgajimjjdaaGreatDoor
namespace Go.Proofs.YtkccjgajimjjdaaGreatDoor
open Proofs.Tryz Go.RowKit
section
variable{w w' u u':World}{B B' R H bT bR bP j n:Nat}{W:Int}{l pl:List (ByteArray×Value)}{rs:List R3}{rv:List Value}{v x0 x1 x2:Value}{x:R3}{a:OA}{gs:List T.F2}
theorem ng{g:Nat}(h:w'.heap[g]?=w.heap[g]?)(j:Nat):w'.cell? ⟨g,j,none⟩=w.cell? ⟨g,j,none⟩:=by simp only[World.cell?,h]
theorem xE{g:Nat}(h:w'.heap[g]?=w.heap[g]?)(j:Nat):w'.frozen? ⟨g,j,none⟩=w.frozen? ⟨g,j,none⟩:=by simp only[World.frozen?,h]
theorem Gq(h:T.qo B w a gs)(c:w.heap.size<=w'.heap.size)(d:∀q,Ah w q 67->w'.heap[q]?=w.heap[q]?)(hB:B'<=B):T.qo B' w' a gs:=by
 obtain⟨hf,h⟩:=h;rcases h with rfl|⟨g,rfl,hg,ho,ht⟩
 ·exact⟨.inl rfl,.inl rfl⟩
 have e:=d g (T.a2W ht);refine⟨?_,.inr ⟨g,rfl,O0,⟨U9 ho.1 c,λj f=>by rw[ng e];exact ho.2.1 j f,λj=>by rw[xE e];exact ho.2.2 j⟩,?_⟩⟩
 ·rcases hf with h0|⟨b,off,h1,h2,l⟩
  ·exact .inl h0
  injection h1 with h1;injection h1 with h1 h4;subst h1 h4;exact .inr ⟨g,0,rfl,U9 h2 c,λi k=>by rw[ng e,ng e];exact l i k⟩
 obtain⟨cur,hc⟩:=ht;exact⟨cur,e.trans hc⟩
theorem a0n(w:World)(R j:Nat)(v:Value):w.grownBy (w.setCell ⟨R,j,none⟩ v) (some R):=
 have o:=O_ w R j v
 ⟨o.os,o.tape,o.output,uh o.size.symm,λk _ h=>o.block k (λe=>h (by rw[e]))⟩
theorem uN(h:qC B w v x)(hR:Cl w R 190 [.int .i64 W,.slice a n j,.pointer (some ⟨H,0,none⟩)])(i:Nat)(y:Value):qC B (w.setCell ⟨R,i,none⟩ y) v x:=by
 obtain⟨a,c,hv,p,m⟩:=h;have o:=O_ w R i y;rcases p with h0|⟨b,off,ha,l,hc⟩
 ·exact⟨a,c,hv,.inl h0,.inl h0⟩
 by_cases hl:x.gs=[]
 ·exact⟨a,c,hv,.inl hl,.inl hl⟩
 have k:b≠R:=λe=>by
  subst e;have h0:=(hc 0 (Rl.2 hl)).1;rw[hR.cell]at h0;rcases(by omega:off+0*3=0\/off+0*3=1\/off+0*3=2\/3<=off+0*3)with e|e|e|e
  ·rw[e]at h0;cases h0
  ·rw[e]at h0;cases h0
  ·rw[e]at h0;cases h0
  rw[Zb (by simpa using e)]at h0;cases h0
 have e:=o.block b k;refine⟨a,c,hv,.inr ⟨b,off,ha,by rw[o.size];exact l,λq g=>by rw[ng e,ng e,ng e];exact hc q g⟩,m.imp id ?_⟩;rintro⟨b',f,d,h⟩;obtain⟨rfl,rfl⟩:b'=b/\f=off:=by rw[ha]at d;injection d with d;injection d with h1 h2;exact⟨h1.symm,h2.symm⟩
 exact⟨b',f,d,h.imp id (λ⟨cur,fr,hc⟩=>⟨cur,fr,e.trans hc⟩)⟩
theorem Sh.a0J(h:Sh B H bT bR bP W l rs rv w){ep:Int}{p:Nat}(hR:Cl w R 190 [.int .i64 ep,.slice a n j,.pointer (some ⟨p,0,none⟩)])(i:Nat)(y:Value):Sh B H bT bR bP W l rs rv (w.setCell ⟨R,i,none⟩ y):=by
 obtain⟨pl,hC,hr⟩:=h;have g:=a0n w R i y;have hm:∀{k:TypeId}{F:Value->Option (DataW Value×List MemPlace)}{b n:Nat}{m:DataW Value},w.ownsMap prog k F b n m->some b≠some R:=λh e=>by
  obtain⟨es,ck,c⟩:=Ii h;obtain rfl:=I_ e;unfold Cl at hR;rw[hR]at c;cases c
 refine⟨pl,hC.kept g (λe=>absurd (Z8 hC.ty (I_ e▸K_ hR)) Z5) (hm hC.tx) (hm hC.rc) (hm hC.pc),hr.len,λi d=>uN (hr.recs i d) hR _ _,λk v e=>(hr.grp k v e).kept g ?_,hr.non,hr.apart,hr.pln⟩
 cases hq:v.ownBlock with
 | none=>exact .inl rfl
 | some q=>
  refine .inr (λf=>?_);obtain⟨_,_,cur,hc⟩:=qh (hr.grp k v e) hq;obtain rfl:=I_ f;exact absurd (Z8 ⟨_,_,hc⟩ (K_ hR)) Z5
theorem Sh.below'(h:Sh B H bT bR bP W l rs rv w)(a:Bw w w'):Sh B H bT bR bP W l rs rv w':=by
 obtain⟨pl,hC,hr⟩:=h;exact⟨pl,hC.below a,hr.below a⟩
end
structure rJ(b0 R:Nat)(m:MS)(fa:OA)(fc H B bT bR bP:Nat)(rv:List Value)(u:World):Prop where
 ok:MOk m
 cr:Cl u R 190 [.int .i64 m.ep,.slice fa m.fs.length fc,.pointer (some ⟨H,0,none⟩)]
 nf:T.qo b0 u fa m.fs
 sh:Sh B H bT bR bP m.s.wd (m.s.ts.map (gT m.s.wd)) m.s.rs rv u
 hB:b0<=B
 hR:b0<=R
def ImM(b0 R:Nat)(m:MS)(u:World):Prop:=∃fa fc H B bT bR bP rv,rJ b0 R m fa fc H B bT bR bP rv u
theorem rJ.below{b0 R fc H B bT bR bP:Nat}{m:MS}{fa:OA}{rv:List Value}{u u':World}(h:rJ b0 R m fa fc H B bT bR bP rv u)(a:Bw u u'):rJ b0 R m fa fc H B bT bR bP rv u':=
 ⟨h.ok,h.cr.below a h.cr.lt,Gq h.nf a.size (λq b=>a.block q (Je b)) X7,h.sh.below' a,h.hB,h.hR⟩
def a1c(w:World)(b0 R:Nat)(m:MS)(x:z_)(e:Ending)(w':World):Prop:=e=.returned (.bool (dn m x).isSome)/\(∀m',dn m x=some m'->ImM b0 R m' w')
end Go.Proofs.YtkccjgajimjjdaaGreatDoor
namespace Go.Proofs.YtkccjgajimjjdaaGreatDoor
open Proofs.Tryz Go.RowKit
theorem YI{w:World}{base g e size n c:Nat}{xs:List Value}(h:w.ownsRow base e size (.slice (some ⟨g,0,none⟩) n c) n xs):∃ys,Cl w g e ys/\n*size<=ys.length:=by
 rcases h.2 with⟨hv,_⟩|⟨g',cap,cur,hv,hb,b,a,_,d,_⟩
 ·cases hv
 cases hv
 exact⟨cur.toList,by unfold Cl;rw[b],by rw[Array.length_toList,d];exact Nat.mul_le_mul_right _ a⟩
theorem c94(s:St)(ta ra:OA)(tc rc:Nat)(w:World)(htl:s.ts.length<=1048576)(hrl:s.rs.length<=1048576)(hgl:∀i,(s.rs.getD i h_).gs.length<=1048576)(hst:Ef w ta ra s):
 Calls prog 94 #[.agg #[.int .i64 s.wd,.slice ta s.ts.length tc,.slice ra s.rs.length rc]] w λe w'=>(∃tv rv,e=.returned (.agg #[.int .i64 s.wd,tv,rv])/\Z_ w' w.heap.size s.ts s.rs tv rv)/\Bw w w':=by
 have HT:=U0 (λu f=>Vu (c:=tc) hst.1 (u:=u) f);obtain⟨vs0,hv0,hsr,hgv⟩:=UR (E:=uJ) (m:=3) (j:=1) (inn:=R3.gs) (LS:=R_) rc (λ_=>rfl) Z5 (λ_=>rfl) (YV hst.2);have HR:=U0 hsr;have HG:=U0 hgv;have HGL:=U0 hgl
 go_in
 go_upto_region 1 with fail
 have J:Hid (Cl ((w.alloc (.cells #[.int .i64 s.wd,.slice ta s.ts.length tc,.slice ra s.rs.length rc] 43)).alloc (.cells #[.int .i64 0,.slice none 0 0,.slice none 0 0] 43)) w.heap.size 43 [.int .i64 s.wd,.slice ta s.ts.length tc,.slice ra s.rs.length rc]):=U8 (X4 w [_,_,_] 43) _;have Z:Hid (Cl ((w.alloc (.cells #[.int .i64 s.wd,.slice ta s.ts.length tc,.slice ra s.rs.length rc] 43)).alloc (.cells #[.int .i64 0,.slice none 0 0,.slice none 0 0] 43)) (w.heap.size+1) 43 [.int .i64 0,.slice none 0 0,.slice none 0 0]):=Ei (xs:=[_,_,_]) E5;have B0:Hid (Bw w ((w.alloc (.cells #[.int .i64 s.wd,.slice ta s.ts.length tc,.slice ra s.rs.length rc] 43)).alloc (.cells #[.int .i64 0,.slice none 0 0,.slice none 0 0] 43))):=Y6.alloc E5 _;have hz:w.heap.size+2<=((w.alloc (.cells #[.int .i64 s.wd,.slice ta s.ts.length tc,.slice ra s.rs.length rc] 43)).alloc (.cells #[.int .i64 0,.slice none 0 0,.slice none 0 0] 43)).heap.size:=E5;generalize (w.alloc (.cells #[.int .i64 s.wd,.slice ta s.ts.length tc,.slice ra s.rs.length rc] 43)).alloc (.cells #[.int .i64 0,.slice none 0 0,.slice none 0 0] 43)=V at*
 go_wp2_with(refine N8 J.out rfl _ _ rfl rfl rfl Y1 ?_)
 refine(LX _ s.ts.length (s.ts.map .string) V htl (Nc _) (λu f=>HT.out u (J5 B0 f))).mono ?_;rintro e w1⟨⟨v,rfl,ho⟩,b⟩;obtain⟨a1,O,rfl⟩:=D9 ho;have HO:=U0 (P7 ho hz);have B1:=U0 (J5 B0 b);have z1:=b.size
 replace J:=U0 (J.out.below b J.out.lt)
 replace Z:=U0 (Z.out.below b Z.out.lt)
 go_upto_region 2 with(refine Cc rfl 22 _ _ rfl (p:=1) rfl rfl Y1 J.out E5 ?_;intro z H L)
 have B2:=U0 (B1.out.trans (L.below X7));have X:=U0 (I5 HO (λq l=>L.block q (by have:=Z4 HO.out l;omega)));have Y:=U0 (Z.out.on L O0);have z2:=L.size
 go_wp2_with(refine N8 H.out rfl _ _ rfl rfl rfl Y1 ?_)
 refine(a2U _ s.rs.length (cE uJ h_ s.rs vs0) z hrl (dV (λx a n c u f=>by simp[uJ]at f;rcases f with rfl|rfl|rfl<;>rfl) (λi D=>by obtain⟨R,N,e,_⟩:=HG.out i D;exact⟨_,_,_,e⟩)) (λu f=>HR.out u (J5 B2 f))).mono ?_;rintro e w3⟨⟨v,rfl,ho⟩,b⟩;obtain⟨U,c3,rfl⟩:=D9 ho;have z3:=b.size;have RO:=U0 (P7 ho (show w.heap.size+2<=z.heap.size by omega))
 replace H:=U0 (H.out.below b H.out.lt)
 replace Y:=U0 (Y.out.below b Y.out.lt)
 replace B2:=U0 (J5 B2 b)
 replace X:=U0 (own_below X b)
 go_upto_region 3 with(refine Cc rfl 41 _ _ rfl (p:=2) rfl rfl Y1 H.out E5 ?_;intro y cy C)
 have B3:=U0 (B2.out.trans (C.below X7));have O3:=U0 (I5 X (λq l=>C.block q (by have:=Z4 X.out l;omega)));have R3_:=U0 (I5 RO (λq l=>C.block q (by have:=Z4 RO.out l;omega)));have D3:=U0 (Y.out.on C O0);have z4:=C.size
 go_wp2_with(refine N8 cy.out rfl _ _ rfl rfl rfl Y1 ?_)
 go_loopw[15] (λi wr=>∃(k:Nat)(vs:List Value),k<=s.rs.length/\i=.int .i64 k/\Hid (Cl wr w.heap.size 43 [.int .i64 s.wd,.slice a1 s.ts.length O,.slice U s.rs.length c3])/\Hid (Cl wr (w.heap.size+1) 43 [.int .i64 0,.slice none 0 0,.slice none 0 0])/\Hid (wr.ownsRow (w.heap.size+2) 9 1 (.slice a1 s.ts.length O) s.ts.length (s.ts.map .string))/\Hid (YB uJ h_ R3.gs wP 162 3 213 3 (w.heap.size+2) s.rs vs0 (.slice U s.rs.length c3) k vs wr)/\Below w.heap.size w wr/\w.heap.size+2<=wr.heap.size) (λi _=>s.rs.length-(RowKit.intOf i).toNat);exact⟨0,vs0,J4 _,rfl,cy,D3,O3,⟨hv0,R3_.out,λi D=>absurd D (y9 _),λ_ _=>rfl,λi j D=>absurd D (y9 _)⟩,B3.out,O0⟩;obtain⟨k,vs,hk,rfl,I,CB,W,RS,bw,hzr⟩:=hrel;by_cases hlt:k<s.rs.length;rotate_left
 ·obtain rfl:k=s.rs.length:=O0;have RW:Hid (vg wr (w.heap.size+2) (.slice U s.rs.length c3) s.rs vs):=⟨RS.out.len,RS.out.row,RS.out.gl,RS.out.apart⟩
  go_wp2_with(first|(refine Oe I.out rfl 43 _ rfl rfl underlying43 rfl Y1 ?_)|(refine I7 rfl 43 _ _ rfl (j:=0) rfl rfl CB.out X7 (Y5 rfl) Y1 ?_;intro zz cq oq))
  refine Q7 (J7 (P:=prog) (ty:=43) rfl _ zz (w.heap.size+1) [.int .i64 s.wd,.slice a1 s.ts.length O,.slice U s.rs.length c3] _ rfl cq.blk underlying43 rfl Y1) rfl ⟨⟨_,_,rfl,?_⟩,bw.trans (oq.below O0)⟩;refine⟨P7 (I5 W (λq l=>oq.block q (by have:=Z4 W.out l;omega))) O0,vs,?_⟩;exact a1B (RW.out.keep (λq t _ _ l=>oq.block q O0)) O0
 have q1:=Wn (E:=uJ) (d:=h_) (is:=s.rs) (vs:=vs) (m:=3) (j:=1) (λ_=>rfl) hlt Z5;obtain⟨g,c3',e3,hg,hc⟩:=Oh RS.out.row q1;injection e3 with e3 _ e4;subst e3 e4;obtain⟨R,N,hv,hga⟩:=HG.out k hlt;rw[RS.out.old k (J8 _),hv]at hc;have HA:=U0 hga;have hgN:=Z4 RS.out.row (k:=g) rfl;have NX:Hid (∀(u:World)(a:OA)(Q:Nat),Bw wr u->u.ownsRow wr.heap.size 213 3 (.slice a (s.rs.getD k h_).gs.length Q) (s.rs.getD k h_).gs.length (gC (s.rs.getD k h_).gs)->YB uJ h_ R3.gs wP 162 3 213 3 (w.heap.size+2) s.rs vs0 (.slice (some ⟨g,0,none⟩) s.rs.length c3) (k+1) (vs.set k (.slice a (s.rs.getD k h_).gs.length Q)) (u.setCell ⟨g,k*3+1,none⟩ (.slice a (s.rs.getD k h_).gs.length Q))):=λu a Q b ho=>RS.out.next (j:=1) (λ_=>rfl) (λ_ _ _=>rfl) Z5 Z5 hlt b ho;have hxl:=HGL.out k;obtain⟨ys,CG,hyl⟩:=YI RS.out.row;have hCG:=U0 CG;generalize s.rs.getD k h_=x at*
 go_upto_region 6 with fail
 have HC:Hid (∀u,Bw wr u->u.cell? ⟨w.heap.size,2,none⟩=some (.slice (some ⟨g,0,none⟩) s.rs.length c3)/\u.cell? ⟨g,k*3+1,none⟩=some (.slice R x.gs.length N)):=λu f=>⟨(I.out.below f I.out.lt).cell 2,(f.cell hg).trans hc⟩;have hd:Bw wr wr.drew:=(G5 _ _).drew;refine Qd 12 (S:=λu=>u.cell? ⟨w.heap.size,2,none⟩=some (.slice (some ⟨g,0,none⟩) s.rs.length c3)/\u.cell? ⟨g,k*3+1,none⟩=some (.slice R x.gs.length N)) Y1 (HC _ hd) λhH=>?_
 iterate 9 refine AL ?_
 refine uy 9 λK F=>?_;go_simp;refine(c160 R N _ _ hxl (I9 HA (J5 bw hd))).mono ?_;rintro e A⟨⟨r,c5,rfl,ho⟩,b⟩;have o:=hd.trans (b.mono X7);have ho':=ho;go_simp;refine A8 F (HC _ o) λhH=>?_;refine uy 10 λK F=>?_;go_simp;refine A8 F (HC _ o) λhH=>?_;refine AL ?_;refine iZ λK F=>?_;have CG5:=U0 (hCG.out.below o hg);refine Gn rfl (Il 160 _ _ rfl (B:=g) (j:=k*3+1) rfl rfl ⟨_,by rw[CG5.out.cell,L9 (show k*3+1<ys.length by omega)]⟩ (CG5.out.opn _) Y1) ?_;change K _ (A.setCell ⟨g,k*3+1,none⟩ (.slice r x.gs.length c5));have N5:=U0 (NX.out _ _ _ o (by have h:=ho;simpa using h));have hs:=O_ A g (k*3+1) (.slice r x.gs.length c5);have CA5:=U0 ((I.out.below o I.out.lt).on hs O0);have CB5:=U0 ((CB.out.below o CB.out.lt).on hs O0);have OT5:Hid ((A.setCell ⟨g,k*3+1,none⟩ (.slice r x.gs.length c5)).ownsRow (w.heap.size+2) 9 1 (.slice a1 s.ts.length O) s.ts.length (s.ts.map .string)):=I5 (own_below W o) (λq l=>hs.block q (λe=>by
  subst e;have:=Z8 (N7 (own_below W.out o) l) (CG5.out.t);cases this))
 have b6:=(J5 bw o).setCell (p:=⟨g,k*3+1,none⟩) (by show w.heap.size<=g;omega) (.slice r x.gs.length c5);have z6:wr.heap.size<=(A.setCell ⟨g,k*3+1,none⟩ (.slice r x.gs.length c5)).heap.size:=by have:=o.size;simp;omega
 generalize A.setCell ⟨g,k*3+1,none⟩ (.slice r x.gs.length c5)=w6 at*;refine F _ _ ?_
 try simp only[qq]
 refine ig Y1 ?_ _;go_wp2;go_roundw;exact⟨k+1,_,O0,by go_num,CA5,CB5,OT5,N5,b6,O0⟩;exact Z9
