import Derived.Test.YtbgdfcmeheaiiaaGreatDoorLX
import Derived.Test.YtbgdfcmeheaiiaaGreatDoorMG
set_option maxHeartbeats 8000000
set_option maxRecDepth 100000
set_option linter.unusedVariables false
set_option linter.unusedSimpArgs false
namespace Go.Proofs.YtbgdfcmeheaiiaaGreatDoor
open Proofs.Tryz Go.RowKit
structure OY(w:World)(M E:List Value)(u:World):Prop where
 b:Bw w u
 hm:Cl u w.heap.size 117 M
 he:Cl u (w.heap.size+1) 168 E
 hr:Cl u (w.heap.size+1+1) 117 [.int .i64 0,.int .i64 0,.slice none 0 0,.int .i64 0,.slice none 0 0,.slice none 0 0]
section
variable{w u u' z:World}{b0 B j:Nat}{m:MS}{x:u_}{vs M E:List Value}
theorem OY.below(h:OY w M E u)(a:Bw u u'):OY w M E u':=⟨h.b.trans (a.mono h.b.size),h.hm.below a h.hm.lt,h.he.below a h.he.lt,h.hr.below a h.hr.lt⟩
theorem OY.put(h:OY w M E u)(j:Nat)(v:Value):OY w (M.set j v) E (u.setCell ⟨w.heap.size,j,none⟩ v):=
 have o:=Tc u w.heap.size j v
 ⟨h.b.trans (o.below Y8),h.hm.set j v,h.he.on o O0,h.hr.on o O0⟩
theorem Rx.put(h:Rx u b0 m vs)(hB:Cl u B 117 M)(v:Value):Rx (u.setCell ⟨B,j,none⟩ v) b0 m vs:=h.keep (λq t hT ht=>(Tc u B j v).block q (λe=>ht (V9 (e▸hT) (E_ hB))))
def a2B(w:World)(b0:Nat)(m:MS)(x:u_)(e:Ending)(w':World):Prop:=∃vs,e=.returned (.tuple #[.agg vs.toArray,.bool (dn m x).isSome])/\vs.length=6/\(∀v∈vs,v.oneCell'=true)/\(∀m',dn m x=some m'->Rx w' b0 m' vs)
theorem Ef{a b c d e f:Value}(ha:a.oneCell'=true)(hb:b.oneCell'=true)(hc:c.oneCell'=true)(hd:d.oneCell'=true)(he:e.oneCell'=true)(hf:f.oneCell'=true):∀v∈[a,b,c,d,e,f],v.oneCell'=true:=λv hv=>by
 simp at hv;rcases hv with rfl|rfl|rfl|rfl|rfl|rfl<;>assumption
theorem Jt{a:Array Value}{r:Bool}(h:OY w vs E u)(j:Cl z (w.heap.size+1+1) 117 vs)(c:Wx (w.heap.size+1+1) u z)(hl:vs.length=6)(h1:∀v∈vs,v.oneCell'=true)(hd:(dn m x).isSome=r)(i:∀m',dn m x=some m'->Rx u b0 m' vs)(f:a.getD 4 undef=.pointer (some ⟨w.heap.size+1+1,0,none⟩))(d:a.getD 5 undef=.bool r):bodyPost prog f90 (λe w'=>a2B w b0 m x e w'/\Bw w w') .ret ⟨a,[]⟩ z:=
 o7 (v:=.tuple #[.agg vs.toArray,.bool r]) (Y_ rfl a z (w.heap.size+1+1) vs (.bool r) _ f d j.blk underlying117 rfl (by rw[hl];kernel_rfl)) rfl ⟨⟨vs,by rw[hd],hl,h1,λm' g=>(i m' g).keep (λq t hT ht=>c.block q (λe=>ht (V9 (e▸hT) (E_ h.hr))))⟩,h.b.trans (c.below O0)⟩
end
section
variable{m:MS}{n c:Int}{a b t:BY}{km:M3}{ls:List L4}
theorem uZ:dn m (v_ n)=if n=m.ep+1 then some ⟨n,m.fs,m.s⟩ else none:=rfl
theorem IV:dn m (Xb a b)=(SN m.fs ⟨a,b⟩).map λgs=>⟨m.ep,gs,m.s⟩:=rfl
theorem LW:dn m (Vb a)=(drF m.fs a).map λgs=>⟨m.ep,gs,m.s⟩:=rfl
theorem a2G:dn m (xg km ls c t)=if (J_ m.s km ls c t).2=0 then some ⟨m.ep,m.fs,(J_ m.s km ls c t).1⟩ else none:=rfl
theorem a2w:dn m U_=some ⟨m.ep,m.fs,⟨m.s.wd,[],[]⟩⟩:=rfl
end
theorem Gs{W:Int}(h:1<=W/\W<=8):Zg ⟨W,[],[]⟩:=⟨h,⟨by show(0:Nat)<=300;omega,λk a=>absurd a (U7 _)⟩,by show(0:Nat)<=150;omega,λk a=>absurd a (U7 _)⟩
theorem zV{s:St}{m:M3}{ls:List L4}{c:Int}{t:BY}(h:Zg s)(a:(J_ s m ls c t).2=0):Zg (J_ s m ls c t).1:=by
 obtain⟨d,b⟩:=Vz (m:=m) (ls:=ls) (c:=c) (t:=t) h;by_cases hc:t_ s.wd s.ts s.rs m ls c t=0
 ·rw[d hc];exact SL h hc
 rw[b hc]at a;exact absurd a hc
theorem PX{s:St}{m:M3}{ls:List L4}{c:Int}{t:BY}(h:Zg s)(a:(J_ s m ls c t).2=0):(J_ s m ls c t).1.wd=s.wd:=by
 obtain⟨d,b⟩:=Vz (m:=m) (ls:=ls) (c:=c) (t:=t) h;by_cases hc:t_ s.wd s.ts s.rs m ls c t=0
 ·rw[d hc]
 rw[b hc]at a;exact absurd a hc
theorem Rx.parts{w:World}{b0:Nat}{m:MS}{a b c d e:Value}{fv:Value}(h:Rx w b0 m [a,b,fv,c,d,e]):w.ownsRow b0 166 2 fv m.fs.length (T.J3 m.fs)/\Bd w b0 m.s.ts m.s.rs d e:=by
 obtain⟨q1,q2,q3,f,i,g⟩:=h.ex;injection f with _ f;injection f with _ f;injection f with r1 f;injection f with _ f;injection f with r2 f;injection f with r3 f;subst r1 r2 r3;exact⟨i,g⟩
theorem c90(b0:Nat)(m:MS)(vs:List Value)(x:u_)(L:OA)(P:Nat)(w:World)(O:Rx w b0 m vs)(hb0:b0<=w.heap.size)(hx:Z8 x)(N:x.le 1048576)(hlk:X6 w L x.ls):
 Calls prog 90 #[.agg vs.toArray,.agg (x.c L P).toArray] w λe w'=>a2B w b0 m x e w'/\Bw w w':=by
 obtain⟨fv,tv,rv,rfl,hf,Y⟩:=O.ex;obtain⟨fa,fc,rfl,hat⟩:=Jv hf;have HST:=U0 Y;obtain⟨ta,tc,rfl⟩:=Eb Y.1;obtain⟨_,vs0,hr0⟩:=Y;obtain⟨ra,rc,rfl⟩:=Eb hr0.row;have k:=U0 O;have HLK:=U0 hlk;have HAT:=U0 hat;have e0:=O.ok.e0;have e1:=O.ok.e1
 go_in
 go_upto_region 2 with fail
 obtain⟨W,hW⟩:∃W:World,W=((w.alloc (.cells #[vO,vI m.ep,vL fa m.fs.length fc,vI m.s.wd,vL ta m.s.ts.length tc,vL ra m.s.rs.length rc] 117)).alloc (.cells (x.c L P).toArray 168)).alloc (.cells #[vO,vO,vN,vO,vN,vN] 117):=⟨_,rfl⟩;rw[<- hW];have H:Hid (OY w [vO,vI m.ep,vL fa m.fs.length fc,vI m.s.wd,vL ta m.s.ts.length tc,vL ra m.s.rs.length rc] (x.c L P) W):=by
  rw[hW];exact⟨(P6.alloc O4 _).alloc X7 _,G8 (G8 (U3 w [_,_,_,_,_,_] 117) _) _,G8 (Hw O4) _,Hw (xs:=[vO,vO,vN,vO,vN,vN]) O4⟩
 clear hW;have HS:=U0 (k.out.below H.out.b);have I:=H.out.he.cell 0;rcases hx with⟨n,hn,rfl⟩|⟨a,b,h,rfl⟩|⟨a,h,rfl⟩|⟨km,ls,c,t,h,rfl⟩|rfl
 ·have F:=H.out.he.cell 1;have m1:=H.out.hm.cell 1;have mf:=H.out.hm.opn 1;dsimp only[v_,u_.c,List.getElem?_cons_zero,List.getElem?_cons_succ]at I F m1;by_cases hne:n=m.ep+1;rotate_left
  ·have f:Hid (dn m (v_ n)=none):=Y7 hne
   go_upto_region 5 with fail
   go_wp2_with(first|(refine Ub H.out.hm rfl 117 _ rfl rfl underlying117 rfl Y0 ?_)|(refine N8 rfl 117 _ _ rfl (j:=0) rfl rfl H.out.hr Y8 (Ef rfl rfl rfl rfl rfl rfl) Y0 ?_;intro z o l))
   exact Jt H.out o l rfl (Ef rfl rfl rfl rfl rfl rfl) (by rw[f.out];rfl) (λm' c=>by rw[f.out]at c;cases c) rfl rfl
  obtain rfl:=hne;have f:Hid (dn m (v_ (m.ep+1))=some ⟨m.ep+1,m.fs,m.s⟩):=by show _=_;exact uZ.trans (D8 rfl)
  have d:=U0 (H.out.put 1 (vI (m.ep+1)));have u:Hid (Rx (W.setCell (aW w 1) (vI (m.ep+1))) b0 ⟨m.ep+1,m.fs,m.s⟩ [vO,vI (m.ep+1),vL fa m.fs.length fc,vI m.s.wd,vL ta m.s.ts.length tc,vL ra m.s.rs.length rc]):=by
   have h:=HS.out.put (j:=1) H.out.hm (vI (m.ep+1));obtain⟨q5,q6⟩:=h.parts;exact⟨⟨by show 0<=m.ep+1;omega,hn.2,h.ok.fl,h.ok.fz,h.ok.st⟩,_,_,_,rfl,q5,q6⟩
  go_upto_region 15 with fail
  dsimp only[List.set_cons_succ,List.set_cons_zero]at d;generalize W.setCell (aW w 1) (vI (m.ep+1))=V at*
  go_wp2_with(first|(refine Ub d.out.hm rfl 117 _ rfl rfl underlying117 rfl Y0 ?_)|(refine N8 rfl 117 _ _ rfl (j:=0) rfl rfl d.out.hr Y8 (Ef rfl rfl rfl rfl rfl rfl) Y0 ?_;intro z o l))
  exact Jt d o l rfl (Ef rfl rfl rfl rfl rfl rfl) (by rw[f.out];rfl) (λm' c=>by rw[f.out]at c;cases c;exact u.out) rfl rfl
 ·have F:=H.out.he.cell 2;have X:=H.out.he.cell 3;have U:=H.out.hm.cell 2;have HX4:Hid ((⟨a,b⟩:T.F2).le 4000):=⟨by have:=kT h.1;show a.size<=4000;omega,by show b.size<=4000;omega⟩;dsimp only[Xb,u_.c,List.getElem?_cons_zero,List.getElem?_cons_succ]at I F X U
  go_upto_region 8 with fail
  go_wp2_with fail
  refine(T.c154 fa fc m.fs ⟨a,b⟩ W (by have:=k.out.ok.fl;omega) k.out.ok.fz HX4 (T.X4 HAT H.out.b)).mono ?_;rintro e p⟨⟨v,cd,gs,rfl,ho,_,_,hR⟩,A⟩;obtain⟨r,q,rfl⟩:=Eb ho;have g:=U0 (H.out.below A);have d2:=g.out.hm.cell 2;have f2:=g.out.hm.opn 2;simp only[gz]at d2
  go_upto_region 15 with fail
  have d:=U0 (g.out.put 2 (vL r gs.length q));dsimp only[List.set_cons_succ,List.set_cons_zero]at d;have u:Hid (cd=0->Rx (p.setCell (aW w 2) (vL r gs.length q)) b0 ⟨m.ep,gs,m.s⟩ [vO,vI m.ep,vL r gs.length q,vI m.s.wd,vL ta m.s.ts.length tc,vL ra m.s.rs.length rc]):=λhc=>by
   subst hc;have J:=jC hR k.out.ok.fz;have h:Rx p b0 ⟨m.ep,gs,m.s⟩ [vO,vI m.ep,vL r gs.length q,vI m.s.wd,vL ta m.s.ts.length tc,vL ra m.s.rs.length rc]:=⟨⟨e0,e1,J.1,J.2,k.out.ok.st⟩,_,_,_,rfl,a_ ho (Q8 hb0 H.out.b.size),(k.out.below g.out.b).parts.2⟩;exact h.put g.out.hm _
  have y:Hid (dn m (Xb a b)=if cd=0 then some ⟨m.ep,gs,m.s⟩ else none):=by
   show _=_;by_cases hc:cd=0
   ·subst hc;rw[D8 rfl];rw[IV,LQ hR];rfl
   rw[Y7 hc];rw[IV,fP hR hc];rfl
  generalize p.setCell (aW w 2) (vL r gs.length q)=V at*;by_cases hc:cd=0
  ·subst hc;have f:=U0 (y.out.trans (D8 rfl))
   go_wp2_with(first|(refine Ub d.out.hm rfl 117 _ rfl rfl underlying117 rfl Y0 ?_)|(refine N8 rfl 117 _ _ rfl (j:=0) rfl rfl d.out.hr Y8 (Ef rfl rfl rfl rfl rfl rfl) Y0 ?_;intro z o l))
   exact Jt d o l rfl (Ef rfl rfl rfl rfl rfl rfl) (by rw[f.out];rfl) (λm' c=>by rw[f.out]at c;cases c;exact u.out O4) rfl rfl
  have hc':(cd==0)=false:=by simpa using hc
  have f:=U0 (y.out.trans (Y7 hc))
  go_wp2_with(first|(refine Ub d.out.hm rfl 117 _ rfl rfl underlying117 rfl Y0 ?_)|(refine N8 rfl 117 _ _ rfl (j:=0) rfl rfl d.out.hr Y8 (Ef rfl rfl rfl rfl rfl rfl) Y0 ?_;intro z o l))
  exact Jt d o l rfl (Ef rfl rfl rfl rfl rfl rfl) (by rw[f.out];rfl) (λm' c=>by rw[f.out]at c;cases c) rfl rfl
 ·have F:=H.out.he.cell 2;have X:=H.out.he.cell 3;have U:=H.out.hm.cell 2;have HFZ:Hid (∀i,(m.fs.getD i T.P8).le 1048576):=λi=>⟨Q8 (k.out.ok.fz i).1 J6,Q8 (k.out.ok.fz i).2 J6⟩;dsimp only[Vb,u_.c,List.getElem?_cons_zero,List.getElem?_cons_succ]at I F X U
  go_upto_region 10 with fail
  go_wp2_with fail
  refine(T.a4x fa fc m.fs a W (by have:=k.out.ok.fl;omega) HFZ (T.X4 HAT H.out.b)).mono ?_;rintro e p⟨⟨v,cd,gs,rfl,ho,hR⟩,A⟩;obtain⟨r,q,rfl⟩:=Eb ho;have g:=U0 (H.out.below A);have d2:=g.out.hm.cell 2;have f2:=g.out.hm.opn 2;simp only[gz]at d2
  go_upto_region 15 with fail
  have d:=U0 (g.out.put 2 (vL r gs.length q));dsimp only[List.set_cons_succ,List.set_cons_zero]at d;have u:Hid (cd=0->Rx (p.setCell (aW w 2) (vL r gs.length q)) b0 ⟨m.ep,gs,m.s⟩ [vO,vI m.ep,vL r gs.length q,vI m.s.wd,vL ta m.s.ts.length tc,vL ra m.s.rs.length rc]):=λhc=>by
   subst hc;have J:=SA hR k.out.ok.fz;have h:Rx p b0 ⟨m.ep,gs,m.s⟩ [vO,vI m.ep,vL r gs.length q,vI m.s.wd,vL ta m.s.ts.length tc,vL ra m.s.rs.length rc]:=⟨⟨e0,e1,J.1,J.2,k.out.ok.st⟩,_,_,_,rfl,a_ ho (Q8 hb0 H.out.b.size),(k.out.below g.out.b).parts.2⟩;exact h.put g.out.hm _
  have y:Hid (dn m (Vb a)=if cd=0 then some ⟨m.ep,gs,m.s⟩ else none):=by
   show _=_;by_cases hc:cd=0
   ·subst hc;rw[D8 rfl];rw[LW,AY hR];rfl
   rw[Y7 hc];rw[LW,JY hR hc];rfl
  generalize p.setCell (aW w 2) (vL r gs.length q)=V at*;by_cases hc:cd=0
  ·subst hc;have f:=U0 (y.out.trans (D8 rfl))
   go_wp2_with(first|(refine Ub d.out.hm rfl 117 _ rfl rfl underlying117 rfl Y0 ?_)|(refine N8 rfl 117 _ _ rfl (j:=0) rfl rfl d.out.hr Y8 (Ef rfl rfl rfl rfl rfl rfl) Y0 ?_;intro z o l))
   exact Jt d o l rfl (Ef rfl rfl rfl rfl rfl rfl) (by rw[f.out];rfl) (λm' c=>by rw[f.out]at c;cases c;exact u.out O4) rfl rfl
  have hc':(cd==0)=false:=by simpa using hc
  have f:=U0 (y.out.trans (Y7 hc))
  go_wp2_with(first|(refine Ub d.out.hm rfl 117 _ rfl rfl underlying117 rfl Y0 ?_)|(refine N8 rfl 117 _ _ rfl (j:=0) rfl rfl d.out.hr Y8 (Ef rfl rfl rfl rfl rfl rfl) Y0 ?_;intro z o l))
  exact Jt d o l rfl (Ef rfl rfl rfl rfl rfl rfl) (by rw[f.out];rfl) (λm' c=>by rw[f.out]at c;cases c) rfl rfl
 ·have k4:=H.out.he.cell 4;have k5:=H.out.he.cell 5;have k6:=H.out.he.cell 6;have k7:=H.out.he.cell 7;have k8:=H.out.he.cell 8;have k9:=H.out.he.cell 9;have S:=H.out.hm.cell 3;have R:=H.out.hm.cell 4;have Q:=H.out.hm.cell 5;dsimp only[xg,u_.c,List.getElem?_cons_zero,List.getElem?_cons_succ]at I k4 k5 k6 k7 k8 k9 S R Q;have Z:=c156 m.s km ls c t b0 ta ra L tc rc P W (TS k.out.ok.st) N.2.2.1 N.2.2.2.1.1 N.2.2.2.1.2 N.2.2.2.2 HS.out.parts.2 (Z4 HLK H.out.b);have HKS:=U0 (zV (m:=km) (ls:=ls) (c:=c) (t:=t) k.out.ok.st);have HKW:=U0 (PX (m:=km) (ls:=ls) (c:=c) (t:=t) k.out.ok.st);have y:Hid (dn m (xg km ls c t)=_):=a2G;unfold Nu at Z;generalize J_ m.s km ls c t=K at*
  go_upto_region 12 with fail
  go_wp2_with fail
  refine Z.mono ?_;rintro e p⟨⟨C,B,E,D,rfl,ho⟩,A⟩;have g:=U0 (H.out.below A);have d3:=g.out.hm.cell 3;have d4:=g.out.hm.cell 4;have d5:=g.out.hm.cell 5;have f3:=g.out.hm.opn 3;have f4:=g.out.hm.opn 4;have f5:=g.out.hm.opn 5;simp only[gz]at d3 d4 d5
  go_upto_region 15 with fail
  have d:=U0 (((g.out.put 3 (vI K.1.wd)).put 4 (vL C K.1.ts.length B)).put 5 (vL E K.1.rs.length D));dsimp only[List.set_cons_succ,List.set_cons_zero]at d;have u:Hid (K.2=0->Rx (((p.setCell (aW w 3) (vI K.1.wd)).setCell (aW w 4) (vL C K.1.ts.length B)).setCell (aW w 5) (vL E K.1.rs.length D)) b0 ⟨m.ep,m.fs,K.1⟩ [vO,vI m.ep,vL fa m.fs.length fc,vI K.1.wd,vL C K.1.ts.length B,vL E K.1.rs.length D]):=λhc=>by
   have h:Rx p b0 ⟨m.ep,m.fs,K.1⟩ [vO,vI m.ep,vL fa m.fs.length fc,vI K.1.wd,vL C K.1.ts.length B,vL E K.1.rs.length D]:=⟨⟨e0,e1,k.out.ok.fl,k.out.ok.fz,HKS hc⟩,_,_,_,rfl,(k.out.below g.out.b).parts.1,Qv ho (Q8 hb0 H.out.b.size)⟩;exact((h.put g.out.hm _).put (g.out.put 3 _).hm _).put ((g.out.put 3 _).put 4 _).hm _
  clear A d3 d4 d5 f3 f4 f5 g ho Z;generalize ((p.setCell (aW w 3) (vI K.1.wd)).setCell (aW w 4) (vL C K.1.ts.length B)).setCell (aW w 5) (vL E K.1.rs.length D)=V at*;obtain⟨cd,hcd⟩:∃cd,cd=K.2:=⟨_,rfl⟩;rw[<- hcd]at y u ⊢;clear hcd;by_cases hc:cd=0
  ·subst hc;have f:=U0 (y.out.trans (D8 rfl));clear y
   go_wp2_with(first|(refine Ub d.out.hm rfl 117 _ rfl rfl underlying117 rfl Y0 ?_)|(refine N8 rfl 117 _ _ rfl (j:=0) rfl rfl d.out.hr Y8 (Ef rfl rfl rfl rfl rfl rfl) Y0 ?_;intro z o l))
   exact Jt d.out o l rfl (Ef rfl rfl rfl rfl rfl rfl) (by rw[f.out];rfl) (λm' c=>by rw[f.out]at c;cases c;exact u.out O4) rfl rfl
  have hc':(cd==0)=false:=by simpa using hc
  have f:=U0 (y.out.trans (Y7 hc))
  go_wp2_with(first|(refine Ub d.out.hm rfl 117 _ rfl rfl underlying117 rfl Y0 ?_)|(refine N8 rfl 117 _ _ rfl (j:=0) rfl rfl d.out.hr Y8 (Ef rfl rfl rfl rfl rfl rfl) Y0 ?_;intro z o l))
  exact Jt d o l rfl (Ef rfl rfl rfl rfl rfl rfl) (by rw[f.out];rfl) (λm' c=>by rw[f.out]at c;cases c) rfl rfl
 have S:=H.out.hm.cell 3;have R:=H.out.hm.cell 4;have Q:=H.out.hm.cell 5;have f3:=H.out.hm.opn 3;have f4:=H.out.hm.opn 4;have f5:=H.out.hm.opn 5;dsimp only[U_,u_.c,List.getElem?_cons_zero,List.getElem?_cons_succ]at I S R Q;have f:Hid (dn m U_=_):=a2w
 go_upto_region 15 with fail
 have d:=U0 (((H.out.put 3 (vI m.s.wd)).put 4 vN).put 5 vN);dsimp only[List.set_cons_succ,List.set_cons_zero]at d;have u:Hid (Rx (((W.setCell (aW w 3) (vI m.s.wd)).setCell (aW w 4) vN).setCell (aW w 5) vN) b0 ⟨m.ep,m.fs,⟨m.s.wd,[],[]⟩⟩ [vO,vI m.ep,vL fa m.fs.length fc,vI m.s.wd,vN,vN]):=by
  have h:Rx W b0 ⟨m.ep,m.fs,⟨m.s.wd,[],[]⟩⟩ [vO,vI m.ep,vL fa m.fs.length fc,vI m.s.wd,vN,vN]:=⟨⟨e0,e1,k.out.ok.fl,k.out.ok.fz,Gs k.out.ok.st.1⟩,_,_,_,rfl,HS.out.parts.1,Yp _ _⟩;exact((h.put H.out.hm _).put (H.out.put 3 _).hm _).put ((H.out.put 3 _).put 4 _).hm _
 generalize ((W.setCell (aW w 3) (vI m.s.wd)).setCell (aW w 4) vN).setCell (aW w 5) vN=V at*
 go_wp2_with(first|(refine Ub d.out.hm rfl 117 _ rfl rfl underlying117 rfl Y0 ?_)|(refine N8 rfl 117 _ _ rfl (j:=0) rfl rfl d.out.hr Y8 (Ef rfl rfl rfl rfl rfl rfl) Y0 ?_;intro z o l))
 exact Jt d o l rfl (Ef rfl rfl rfl rfl rfl rfl) (by rw[f.out];rfl) (λm' c=>by rw[f.out]at c;cases c;exact u.out) rfl rfl
end Go.Proofs.YtbgdfcmeheaiiaaGreatDoor
namespace Go.Proofs.YtbgdfcmeheaiiaaGreatDoor
open Proofs.Tryz Go.RowKit
def FY(W:Int):MS:=⟨0,[],⟨W,[],[]⟩⟩
def Vx(es:LB)(W:Int):Prop:=(1<=W/\W<=8)/\es.length<=1000
def Rp5(w:World)(es:LB)(W:Int)(e:Ending)(w':World):Prop:=∃vs,e=.returned (.agg vs.toArray)/\((¬Vx es W/\vs=[.int .i64 1,.int .i64 0,.slice none 0 0,.int .i64 0,.slice none 0 0,.slice none 0 0])\/(Vx es W/\∃o,rH RES es (FY W) o/\((o=none/\vs=[.int .i64 2,.int .i64 0,.slice none 0 0,.int .i64 0,.slice none 0 0,.slice none 0 0])\/∃m,o=some m/\Rx w' w.heap.size m vs)))
structure Q5(w:World)(B:Nat)(m:MS)(vs:List Value)(u:World):Prop where
 b:Bw w u
 hB:w.heap.size<B
 hr:Cl u w.heap.size 117 [.int .i64 0,.int .i64 0,.slice none 0 0,.int .i64 0,.slice none 0 0,.slice none 0 0]
 hm:Cl u B 117 vs
 sp:Rx u w.heap.size m vs
section
variable{w u u' z:World}{m:MS}{vs:List Value}{es:LB}{W:Int}
theorem Q5.below{B:Nat}(h:Q5 w B m vs u)(a:Bw u u'):Q5 w B m vs u':=⟨h.b.trans (a.mono h.b.size),h.hB,h.hr.below a h.hr.lt,h.hm.below a h.hm.lt,h.sp.below a⟩
def upd(f:Nat->u_)(k:Nat)(x:u_):Nat->u_:=λj=>if j=k then x else f j
theorem QL{f:Nat->u_}{k:Nat}{x:u_}:upd f k x k=x:=D8 rfl
theorem TJ{f:Nat->u_}{k j:Nat}{x:u_}(h:j<k):upd f k x j=f j:=Y7 O0
section
variable{R:List UInt8->u_->Bool->Prop}{m0 m m':MS}{f:Nat->u_}{k:Nat}{x:u_}
theorem ay(hF:∀j,j<k->R (eL es j) (f j) true)(hR:rn f m0 k=some m)(hx:R (eL es k) x true)(hd:dn m x=some m'):(∀j,j<k+1->R (eL es j) (upd f k x j) true)/\rn (upd f k x) m0 (k+1)=some m':=by
 refine⟨λj a=>?_,?_⟩
 ·by_cases h:j=k
  ·subst h;rw[QL];exact hx
  rw[TJ O0];exact hF j O0
 show(rn _ _ k).bind _=_;rw[Ll (g:=f) k (λj a=>TJ a),hR];show dn m _=_;rw[QL];exact hd
theorem sQ(b:k<es.length)(hF:∀j,j<k->R (eL es j) (f j) true)(hR:rn f m0 k=some m)(hx:R (eL es k) x true)(hd:dn m x=none):rH R es m0 none:=
 .inr ⟨rfl,k,upd f k x,m,b,λj a=>(by rw[TJ a];exact hF j a),(Ll k (λj a=>TJ a)).trans hR,.inr ⟨(by rw[QL];exact hx),(by rw[QL];exact hd)⟩⟩
theorem pY(a:k<es.length)(hF:∀j,j<k->R (eL es j) (f j) true)(hR:rn f m0 k=some m)(hx:R (eL es k) Ji false):rH R es m0 none:=.inr ⟨rfl,k,f,m,a,hF,hR,.inl hx⟩
theorem sS(hF:∀j,j<es.length->R (eL es j) (f j) true)(hR:rn f m0 es.length=some m):rH R es m0 (some m):=.inl ⟨f,m,hF,hR,rfl⟩
end
theorem yT{a b c d e f:Value}(h:vs.length=6):Ap [a,b,c,d,e,f] 0 vs=vs:=by
 unfold Ap;rw[h];simp
theorem a1i(h:1<=W/\W<=8):MOk (FY W):=⟨by show(0:Int)<=0;omega,by show(0:Int)<=200;omega,by show(0:Nat)<=40;omega,λi=>⟨by show(0:Nat)<=4000;omega,by show(0:Nat)<=4000;omega⟩,Gs h⟩
theorem qP{a:Array Value}(n:Int)(hc:Cl u w.heap.size 117 [.int .i64 0,.int .i64 0,.slice none 0 0,.int .i64 0,.slice none 0 0,.slice none 0 0])(g:Cl z w.heap.size 117 vs)(b:Wx w.heap.size u z)(d:Bw w u)(hl:vs.length=6)(c:a.getD 4 undef=.pointer (some ⟨w.heap.size,0,none⟩))(f:∀z:World,(∀q t,Oj u q t->t≠117->z.heap[q]?=u.heap[q]?)->Rp5 w es W (.returned (.agg vs.toArray)) z):bodyPost prog f39 (λe w'=>Rp5 w es W e w'/\Bw w w') .ret ⟨a,[]⟩ z:=
 o7 (v:=.agg vs.toArray) (I8 (P:=prog) (ty:=117) rfl a z w.heap.size vs _ c g.blk underlying117 rfl (by rw[hl];kernel_rfl)) rfl ⟨f z (λq t hT ht=>b.block q (λe=>ht (V9 (e▸hT) (E_ hc)))),d.trans (b.below Y8)⟩
end
theorem c39(a:OA)(cap:Nat)(es:LB)(W:Int)(w:World)(hl:es.length<=1048576)(hs:∀i,(es.getD i ByteArray.empty).size<=1048576)(hat:o8 w a es):
 Calls prog 39 #[.slice a es.length cap,.int .i64 W] w λe w'=>Rp5 w es W e w'/\Bw w w':=by
 have HAT:=U0 hat;have HSZ:=U0 hs;clear hat hs
 go_in
 go_upto_region 1 with fail
 obtain⟨V,hV⟩:∃V:World,V=w.alloc (.cells #[vO,vO,vN,vO,vN,vN] 117):=⟨_,rfl⟩;rw[<- hV];have D:Bw w V:=by rw[hV];exact P6
 have p:Hid (Cl V w.heap.size 117 [vO,vO,vN,vO,vN,vN]):=by show Cl _ _ _ _;rw[hV];exact U3 w [vO,vO,vN,vO,vN,vN] 117
 have o:V.heap.size=w.heap.size+1:=by rw[hV];simp
 have HZ:=U0 o;clear hV o;have l:Hid (∀v∈([vI 1,vO,vN,vO,vN,vN]:List Value),v.oneCell'=true):=Ef rfl rfl rfl rfl rfl rfl;by_cases hw:1<=W/\W<=8;rotate_left
 ·have HBD:Hid (¬Vx es W):=λh=>hw h.1;have hd:=y9 hw
  go_wp2_with fail
  refine(IX W V).mono ?_;rintro e V1⟨rfl,Q⟩;obtain rfl:=Q.symm;rw[hd]
  go_wp2_with(refine N8 rfl 117 _ _ rfl (j:=0) rfl rfl p.out Y8 l.out Y0 ?_;intro z g d)
  exact qP 1 p g d D rfl rfl (λz _=>⟨_,rfl,.inl ⟨HBD,rfl⟩⟩)
 have hd:=m_ hw
 go_wp2_with fail
 refine(IX W V).mono ?_;rintro e V1⟨rfl,Q⟩;obtain rfl:=Q.symm;rw[hd];by_cases hbig:1000<es.length
 ·have HBD:Hid (¬Vx es W):=λh=>by have:=h.2;omega
  have N:(1000:Int)<es.length:=O0
  go_wp2_with(refine N8 rfl 117 _ _ rfl (j:=0) rfl rfl p.out Y8 l.out Y0 ?_;intro z g d)
  exact qP 1 p g d D rfl rfl (λz _=>⟨_,rfl,.inl ⟨HBD,rfl⟩⟩)
 have N:¬(1000:Int)<es.length:=O0;have Z:Hid (Vx es W):=⟨hw,O0⟩
 go_upto_region 4 with fail
 obtain⟨U,S⟩:∃U:World,U=V.alloc (.cells #[vO,vO,vN,vI W,vN,vN] 117):=⟨_,rfl⟩;rw[<- S];have HQ:Hid (Q5 w V.heap.size (FY W) [vO,vO,vN,vI W,vN,vN] U):=by
  rw[S];exact⟨D.alloc D.size _,by rw[HZ.out];omega,G8 p.out _,U3 V [_,_,_,_,_,_] 117,a1i hw,_,_,_,rfl,og _ _ _ _,Yp _ _⟩
 clear S p;generalize V.heap.size=B at*;clear D HZ hd;go_wp2;go_loopw[6] (λi wr=>∃(k:Nat)(f:Nat->u_)(m:MS)(vs:List Value),i=.int .i64 k/\k<=es.length/\Hid (∀j,j<k->RES (eL es j) (f j) true)/\Hid (rn f (FY W) k=some m)/\Hid (Q5 w B m vs wr)) (λi _=>es.length-(RowKit.intOf i).toNat);exact⟨0,λ_=>Ji,_,_,rfl,I4 _,λj h=>absurd h (U7 _),rfl,HQ⟩;obtain⟨k,f,m,vs,rfl,hk,K,J,H⟩:=hrel;clear HQ;have hsp:=H.out.sp.ex;obtain⟨fv,tv,rv,rfl,hfo,hso⟩:=hsp;obtain⟨fa,fc,rfl⟩:=Eb hfo;obtain⟨ta,tc,rfl⟩:=Eb hso.1;obtain⟨_,vs0,hr0⟩:=hso;obtain⟨ra,rc,rfl⟩:=Eb hr0.row;clear hr0 hfo;have HLD:Hid (∀(q:Nat)(v:Value),([vO,vI m.ep,vL fa m.fs.length fc,vI m.s.wd,vL ta m.s.ts.length tc,vL ra m.s.rs.length rc]:List Value)[q]?=some v->wr.cell? (aA B (0+q))=some v):=λq v e=>by rw[l7];exact(H.out.hm.cell q).trans e
 by_cases L:k<es.length;rotate_left
 ·obtain rfl:k=es.length:=O0;have l:Hid (∀v∈([vO,vI m.ep,vL fa m.fs.length fc,vI m.s.wd,vL ta m.s.ts.length tc,vL ra m.s.rs.length rc]:List Value),v.oneCell'=true):=Ef rfl rfl rfl rfl rfl rfl
  go_wp2_with(first|(refine b_ rfl (I7 117 _ rfl (B:=B) (j:=0) (cs:=[vO,vI m.ep,vL fa m.fs.length fc,vI m.s.wd,vL ta m.s.ts.length tc,vL ra m.s.rs.length rc]) rfl HLD.out underlying117 rfl Y0) ?_)|(refine N8 rfl 117 _ _ rfl (j:=0) rfl rfl H.out.hr Y8 l.out Y0 ?_;intro z g d))
  exact qP 0 H.out.hr g d H.out.b rfl rfl (λz o=>⟨_,rfl,.inr ⟨Z,_,sS K J,.inr ⟨m,rfl,H.out.sp.keep o⟩⟩⟩)
 obtain⟨b,off,hst⟩:=O_ (X5 HAT.out H.out.b);obtain⟨rfl,hbw,hce⟩:=Zb hst L;have hc0:=hce k L;clear hce;have HRD:=U0 (c89 (es.getD k ByteArray.empty) wr (HSZ k));have HEL:Hid ((es.getD k ByteArray.empty).data.toList=eL es k):=rfl;generalize es.getD k ByteArray.empty=s at*
 go_upto_region 7 with fail
 go_wp2_with fail
 refine HRD.out.mono ?_;rintro e r⟨⟨x,ok,F,C,rfl,hx,hxz,hxl,hlk⟩,N⟩;rw[HEL.out]at hx;have H1:=U0 (H.out.below N);have I:=U0 hx;have HXZ:=U0 hxz;have HXL:=U0 hxl;have O:=U0 hlk;clear HRD hx hxz hxl hlk H hc0 HLD;dsimp only[u_.c]
 go_upto_region 8 with fail
 obtain⟨y,A⟩:∃q:World,q=r.alloc (.cells (x.c F C).toArray 168):=⟨_,rfl⟩;have X:Bw r y:=by rw[A];exact P6
 have CE:Hid (Cl y r.heap.size 168 (x.c F C)):=by show Cl _ _ _ _;rw[A];exact U3 r _ 168
 dsimp only[u_.c]at A;rw[<- A];have H:=U0 (H1.out.below X);have O:=U0 (Z4 O X);clear A X H1 N;generalize r.heap.size=E at*;cases ok
 ·obtain⟨hz1,hz2,hz3⟩:=HXZ.out rfl;have HBAD:=U0 (hz1▸I.out);have l:Hid (∀v∈([vI 2,vO,vN,vO,vN,vN]:List Value),v.oneCell'=true):=Ef rfl rfl rfl rfl rfl rfl;clear hz1 hz2 hz3
  go_wp2_with(refine N8 rfl 117 _ _ rfl (j:=0) rfl rfl H.out.hr Y8 l.out Y0 ?_;intro z g d)
  exact qP 2 H.out.hr g d H.out.b rfl rfl (λz o=>⟨_,rfl,.inr ⟨Z,_,pY L K J HBAD,.inl ⟨rfl,rfl⟩⟩⟩)
 have HEN:=U0 (I.out.1 rfl).1;have HLM:Hid (∀(q:Nat)(v:Value),([vO,vI m.ep,vL fa m.fs.length fc,vI m.s.wd,vL ta m.s.ts.length tc,vL ra m.s.rs.length rc]:List Value)[q]?=some v->y.cell? (aA B (0+q))=some v):=λq v e=>by rw[l7];exact(H.out.hm.cell q).trans e
 have HLE:Hid (∀(q:Nat)(v:Value),(x.c F C)[q]?=some v->y.cell? (aA E (0+q))=some v):=λq v e=>by rw[l7];exact(CE.out.cell q).trans e
 have HC:=U0 (c90 w.heap.size m _ x F C y H.out.sp H.out.b.size HEN HXL O)
 go_upto_region 10 with fail
 go_wp2_with(first|(refine b_ rfl (I7 117 _ rfl (B:=B) (j:=0) (cs:=[vO,vI m.ep,vL fa m.fs.length fc,vI m.s.wd,vL ta m.s.ts.length tc,vL ra m.s.rs.length rc]) rfl HLM.out underlying117 rfl Y0) ?_)|(refine b_ rfl (I7 168 _ rfl (B:=E) (j:=0) (cs:=x.c F C) rfl HLE.out underlying168 rfl Y0) ?_))
 refine HC.out.mono ?_;rintro e w2⟨⟨u,rfl,R,ho2,hS2⟩,hb2⟩;have n:=U0 (H.out.below hb2);have HO2:=U0 ho2;have HS2:=U0 hS2;have HI2:Hid ((prog.info? 117).map (·.size)=some u.length):=by show _=_;rw[R];kernel_rfl
 have HL2:Hid (0+u.length<=([vO,vI m.ep,vL fa m.fs.length fc,vI m.s.wd,vL ta m.s.ts.length tc,vL ra m.s.rs.length rc]:List Value).length):=by show _<=_;rw[R];exact J9 _
 have HPL:Hid (Ap [vO,vI m.ep,vL fa m.fs.length fc,vI m.s.wd,vL ta m.s.ts.length tc,vL ra m.s.rs.length rc] 0 u=u):=yT R;clear HC ho2 hS2 hb2 H HLM HLE CE O HXL
 go_upto_region 11 with(refine N8 rfl 117 _ _ rfl (j:=0) rfl rfl n.out.hm HL2.out HO2.out HI2.out ?_;intro z g d)
 rw[HPL.out]at g;have CZ:=U0 g;have Y:=U0 (n.out.hr.on d (by have:=n.out.hB;omega));have BZ:=U0 (n.out.b.trans (d.below (Uu n.out.hB)));have KZ:Hid (∀q t,Oj w2 q t->t≠117->z.heap[q]?=w2.heap[q]?):=λq t hT ht=>d.block q (λe=>ht (V9 (e▸hT) (E_ n.out.hm)));have hBB:=n.out.hB;clear g d n HL2 HI2 HPL
 cases hd:dn m x with
 | none=>
  have P:=U0 hd;have l:Hid (∀v∈([vI 2,vO,vN,vO,vN,vN]:List Value),v.oneCell'=true):=Ef rfl rfl rfl rfl rfl rfl;clear hd
  go_wp2_with(refine N8 rfl 117 _ _ rfl (j:=0) rfl rfl Y.out Y8 l.out Y0 ?_;intro z2 cz2 oz2)
  exact qP 2 Y cz2 oz2 BZ rfl rfl (λz o=>⟨_,rfl,.inr ⟨Z,_,sQ L K J I P,.inl ⟨rfl,rfl⟩⟩⟩)
 | some m'=>
  have P:=U0 hd;have HSP:=U0 ((HS2 m' hd).keep KZ);clear hd HS2 KZ;go_wp2;go_roundw;exact⟨k+1,upd f k x,m',u,by go_num,O0,(ay K.out J.out I.out P.out).1,(ay K.out J.out I.out P.out).2,BZ.out,hBB,Y.out,CZ.out,HSP.out⟩;exact P9
end Go.Proofs.YtbgdfcmeheaiiaaGreatDoor
namespace Go.Proofs.YtbgdfcmeheaiiaaGreatDoor
open Proofs.Tryz Go.RowKit
section
variable{w w' u u':World}{B B' R H bT bR bP j n:Nat}{W:Int}{l pl:List (ByteArray×Value)}{rs:List R3}{rv:List Value}{v x0 x1 x2:Value}{x:R3}{a:OA}{gs:List T.F2}
theorem Xl{g:Nat}(h:w'.heap[g]?=w.heap[g]?)(j:Nat):w'.cell? ⟨g,j,none⟩=w.cell? ⟨g,j,none⟩:=by simp only[World.cell?,h]
theorem uP{g:Nat}(h:w'.heap[g]?=w.heap[g]?)(j:Nat):w'.frozen? ⟨g,j,none⟩=w.frozen? ⟨g,j,none⟩:=by simp only[World.frozen?,h]
theorem Ar(h:T.ku B w a gs)(c:w.heap.size<=w'.heap.size)(d:∀q,Oj w q 166->w'.heap[q]?=w.heap[q]?)(hB:B'<=B):T.ku B' w' a gs:=by
 obtain⟨hf,h⟩:=h;rcases h with rfl|⟨g,rfl,hg,ho,ht⟩
 ·exact⟨.inl rfl,.inl rfl⟩
 have e:=d g (T.a1I ht);refine⟨?_,.inr ⟨g,rfl,O0,⟨G9 ho.1 c,λj f=>by rw[Xl e];exact ho.2.1 j f,λj=>by rw[uP e];exact ho.2.2 j⟩,?_⟩⟩
 ·rcases hf with h0|⟨b,off,h1,h2,l⟩
  ·exact .inl h0
  injection h1 with h1;injection h1 with h1 h4;subst h1 h4;exact .inr ⟨g,0,rfl,G9 h2 c,λi k=>by rw[Xl e,Xl e];exact l i k⟩
 obtain⟨cur,hc⟩:=ht;exact⟨cur,e.trans hc⟩
theorem a0I(w:World)(R j:Nat)(v:Value):w.grownBy (w.setCell ⟨R,j,none⟩ v) (some R):=
 have o:=Tc w R j v
 ⟨o.os,o.tape,o.output,Zj o.size.symm,λk _ h=>o.block k (λe=>h (by rw[e]))⟩
theorem LM(h:YB B w v x)(hR:Cl w R 205 [.int .i64 W,.slice a n j,.pointer (some ⟨H,0,none⟩)])(i:Nat)(y:Value):YB B (w.setCell ⟨R,i,none⟩ y) v x:=by
 obtain⟨a,c,hv,p,m⟩:=h;have o:=Tc w R i y;rcases p with h0|⟨b,off,ha,l,hc⟩
 ·exact⟨a,c,hv,.inl h0,.inl h0⟩
 by_cases hl:x.gs=[]
 ·exact⟨a,c,hv,.inl hl,.inl hl⟩
 have k:b≠R:=λe=>by
  subst e;have h0:=(hc 0 (Us.2 hl)).1;rw[hR.cell]at h0;rcases(by omega:off+0*3=0\/off+0*3=1\/off+0*3=2\/3<=off+0*3)with e|e|e|e
  ·rw[e]at h0;cases h0
  ·rw[e]at h0;cases h0
  ·rw[e]at h0;cases h0
  rw[Mc (by simpa using e)]at h0;cases h0
 have e:=o.block b k;refine⟨a,c,hv,.inr ⟨b,off,ha,by rw[o.size];exact l,λq g=>by rw[Xl e,Xl e,Xl e];exact hc q g⟩,m.imp id ?_⟩;rintro⟨b',f,d,h⟩;obtain⟨rfl,rfl⟩:b'=b/\f=off:=by rw[ha]at d;injection d with d;injection d with h1 h2;exact⟨h1.symm,h2.symm⟩
 exact⟨b',f,d,h.imp id (λ⟨cur,fr,hc⟩=>⟨cur,fr,e.trans hc⟩)⟩
theorem Sh.a0d(h:Sh B H bT bR bP W l rs rv w){ep:Int}{p:Nat}(hR:Cl w R 205 [.int .i64 ep,.slice a n j,.pointer (some ⟨p,0,none⟩)])(i:Nat)(y:Value):Sh B H bT bR bP W l rs rv (w.setCell ⟨R,i,none⟩ y):=by
 obtain⟨pl,hC,hr⟩:=h;have g:=a0I w R i y;have hm:∀{k:TypeId}{F:Value->Option (DataW Value×List MemPlace)}{b n:Nat}{Dd:DataW Value},w.ownsMap prog k F b n Dd->some b≠some R:=λh e=>by
  obtain⟨es,ck,c⟩:=Uh h;obtain rfl:=D_ e;unfold Cl at hR;rw[hR]at c;cases c
 refine⟨pl,hC.kept g (λe=>absurd (V9 hC.ty (D_ e▸E_ hR)) J6) (hm hC.tx) (hm hC.rc) (hm hC.pc),hr.len,λi d=>LM (hr.recs i d) hR _ _,λk v e=>(hr.grp k v e).kept g ?_,hr.non,hr.apart,hr.pln⟩
 cases hq:v.ownBlock with
 | none=>exact .inl rfl
 | some q=>
  refine .inr (λf=>?_);obtain⟨_,_,cur,hc⟩:=Og (hr.grp k v e) hq;obtain rfl:=D_ f;exact absurd (V9 ⟨_,_,hc⟩ (E_ hR)) J6
theorem Sh.below'(h:Sh B H bT bR bP W l rs rv w)(a:Bw w w'):Sh B H bT bR bP W l rs rv w':=by
 obtain⟨pl,hC,hr⟩:=h;exact⟨pl,hC.below a,hr.below a⟩
end
structure LJ(b0 R:Nat)(m:MS)(fa:OA)(fc H B bT bR bP:Nat)(rv:List Value)(u:World):Prop where
 ok:MOk m
 cr:Cl u R 205 [.int .i64 m.ep,.slice fa m.fs.length fc,.pointer (some ⟨H,0,none⟩)]
 nf:T.ku b0 u fa m.fs
 sh:Sh B H bT bR bP m.s.wd (m.s.ts.map (gT m.s.wd)) m.s.rs rv u
 hB:b0<=B
 hR:b0<=R
def ImM(b0 R:Nat)(m:MS)(u:World):Prop:=∃fa fc H B bT bR bP rv,LJ b0 R m fa fc H B bT bR bP rv u
theorem LJ.below{b0 R fc H B bT bR bP:Nat}{m:MS}{fa:OA}{rv:List Value}{u u':World}(h:LJ b0 R m fa fc H B bT bR bP rv u)(a:Bw u u'):LJ b0 R m fa fc H B bT bR bP rv u':=
 ⟨h.ok,h.cr.below a h.cr.lt,Ar h.nf a.size (λq b=>a.block q (Tm b)) Y8,h.sh.below' a,h.hB,h.hR⟩
def a0n(w:World)(b0 R:Nat)(m:MS)(x:u_)(e:Ending)(w':World):Prop:=e=.returned (.bool (dn m x).isSome)/\(∀m',dn m x=some m'->ImM b0 R m' w')
end Go.Proofs.YtbgdfcmeheaiiaaGreatDoor
namespace Go.Proofs.YtbgdfcmeheaiiaaGreatDoor
open Proofs.Tryz Go.RowKit
section
variable{b0 R fc H B bT bR bP:Nat}{m:MS}{fa:OA}{rv:List Value}{u:World}
theorem LJ.ep(h:LJ b0 R m fa fc H B bT bR bP rv u)(n:Int)(h0:0<=n/\n<=200):LJ b0 R ⟨n,m.fs,m.s⟩ fa fc H B bT bR bP rv (u.setCell ⟨R,0,none⟩ (.int .i64 n)):=
 have o:=Tc u R 0 (vI n)
 ⟨⟨h0.1,h0.2,h.ok.fl,h.ok.fz,h.ok.st⟩,h.cr.set 0 _,Ar h.nf (Zj o.size.symm) (λq a=>o.block q (λe=>absurd (V9 a (e▸E_ h.cr)) J6)) Y8,h.sh.a0d h.cr 0 _,h.hB,h.hR⟩
theorem LJ.fs{a:OA}{b c:Nat}{gs:List T.F2}(h:LJ b0 R m fa fc H B bT bR bP rv u)(g:T.ku c u a gs)(j:b0<=c)(hl:gs.length<=40)(d:∀i,(gs.getD i T.P8).le 4000):LJ b0 R ⟨m.ep,gs,m.s⟩ a b H B bT bR bP rv (u.setCell ⟨R,1,none⟩ (.slice a gs.length b)):=
 have o:=Tc u R 1 (vL a gs.length b)
 ⟨⟨h.ok.e0,h.ok.e1,hl,d,h.ok.st⟩,h.cr.set 1 _,Ar g (Zj o.size.symm) (λq f=>o.block q (λe=>absurd (V9 f (e▸E_ h.cr)) J6)) j,h.sh.a0d h.cr 1 _,h.hB,h.hR⟩
theorem LJ.ts{a B' c d f:Nat}{b:List Value}{s':St}(h:LJ b0 R m fa fc H B bT bR bP rv u)(g:Sh B' a c d f s'.wd (s'.ts.map (gT s'.wd)) s'.rs b u)(k:b0<=B')(j:Zg s'):LJ b0 R ⟨m.ep,m.fs,s'⟩ fa fc a B' c d f b (u.setCell ⟨R,2,none⟩ (.pointer (some ⟨a,0,none⟩))):=
 have o:=Tc u R 2 (.pointer (some (aA a 0)))
 ⟨⟨h.ok.e0,h.ok.e1,h.ok.fl,h.ok.fz,j⟩,h.cr.set 2 _,Ar h.nf (Zj o.size.symm) (λq i=>o.block q (λe=>absurd (V9 i (e▸E_ h.cr)) J6)) Y8,g.a0d h.cr 2 _,k,h.hR⟩
end
theorem c117(b0 R:Nat)(m:MS)(x:u_)(v:OA)(O:Nat)(w:World)(hM:ImM b0 R m w)(Z:b0<=w.heap.size)(hmx:Oc w)(hx:Z8 x)(hxl:x.le 1048576)(hlk:X6 w v x.ls):
 Calls prog 117 #[.pointer (some ⟨R,0,none⟩),AV x v O] w λe w'=>a0n w b0 R m x e w'/\Below b0 w w':=by
 obtain⟨fa,fc,H,B,bT,bR,bP,rv,p⟩:=hM;have I:=U0 p;have HLK:=U0 hlk;have e0:=p.ok.e0;have e1:=p.ok.e1;have X:=p.cr.cell 0;have W:=p.cr.cell 1;have P:=p.cr.cell 2;have F:=p.cr.opn;have hR:=p.hR;have hRl:=p.cr.lt;simp only[gz]at X W P;clear p hlk;rcases hx with⟨n,hn,rfl⟩|⟨a,b,h,rfl⟩|⟨a,h,rfl⟩|⟨km,ls,c,t,h,rfl⟩|rfl
 ·have h0:=dX;show Calls prog 117 #[_,.iface 288 (.int .i64 n)] w _;have f0:=F 0;clear F
  go_in
  by_cases hne:n=m.ep+1;rotate_left
  ·have d:Hid (dn m (v_ n)=none):=by show _=_;exact uZ.trans (Y7 hne)
   go_wp2;go_ret;exact⟨⟨by rw[d.out];rfl,λm' c=>by rw[d.out]at c;cases c⟩,J4 _ _⟩
  obtain rfl:=hne;have d:Hid (dn m (v_ (m.ep+1))=some ⟨m.ep+1,m.fs,m.s⟩):=by show _=_;exact uZ.trans (D8 rfl)
  have l:=U0 (I.out.ep (m.ep+1) ⟨O0,hn.2⟩);go_wp2;go_ret;exact⟨⟨by rw[d.out];rfl,λm' c=>by rw[d.out]at c;cases c;exact⟨_,_,_,_,_,_,_,_,l.out⟩⟩,(J4 _ _).setCell hR _⟩
 ·have h0:=wX;have h1:=OU;clear F;show Calls prog 117 #[_,.iface 289 (.agg #[.string a,.string b])] w _;have HX4:Hid ((⟨a,b⟩:T.F2).le 1048576):=⟨by have:=kT h.1;show a.size<=1048576;omega,by show b.size<=1048576;omega⟩;have HFZ:Hid (∀i,(m.fs.getD i T.P8).le 1048576):=λi=>⟨Q8 (I.out.ok.fz i).1 J6,Q8 (I.out.ok.fz i).2 J6⟩
  go_in
  go_upto_region 10 with fail
  obtain⟨y,g⟩:∃q:World,q=w.alloc (.cells #[vS a,vS b] 289):=⟨_,rfl⟩;have f:Bw w y:=by rw[g];exact P6
  have o:Hid (Cl y w.heap.size 289 [vS a,vS b]):=by show Cl _ _ _ _;rw[g];exact U3 w [_,_] 289
  rw[<- g];have j:Bw y y.drew:=(J4 _ _).drew;have z:=U0 ((I.out.below f).below j);have CD:=U0 (o.out.below j o.out.lt);clear g X W P;refine wp_region_held_drew (S:=λu=>u.cell? (aW w 0)=some (vS a)/\u.cell? (aW w 1)=some (vS b)) Y0 ⟨CD.out.cell 0,CD.out.cell 1⟩ λhH=>?_;refine U8 0 ?_;refine U8 1 ?_;refine U8 2 ?_;refine U8 3 ?_;refine U8 5 ?_;have N:=z.out.cr.cell 1;simp only[gz]at N;refine rq 4 λK k=>?_;go_simp;refine X8 k hH λhH=>?_;clear k K N;refine rq 6 λK k=>?_;go_simp;refine(T.c171 fa fc m.fs ⟨a,b⟩ y.drew (by have:=I.out.ok.fl;omega) HFZ.out HX4.out z.out.nf.1).mono ?_;rintro e E⟨⟨U,Q,cd,gs,rfl,Y,r⟩,L⟩;have A:=U0 (z.out.below L);have C1:=U0 (CD.out.below L CD.out.lt);have HNF:=U0 Y;have B1:=U0 (((f.mono Z).trans (j.mono (by have:=f.size;omega))).trans (L.mono (by have:=f.size;have:=j.size;omega)));have C:Hid (dn m (Xb a b)=if cd=0 then some ⟨m.ep,gs,m.s⟩ else none):=by
   show _=_;by_cases hc:cd=0
   ·subst hc;rw[D8 rfl,IV,LQ r];rfl
   rw[Y7 hc,IV,fP r hc];rfl
  have l:Hid (cd=0->LJ b0 R ⟨m.ep,gs,m.s⟩ U Q H B bT bR bP rv (E.setCell (aA R 1) (vL U gs.length Q))):=λhc=>by
   subst hc;have J:=jC r I.out.ok.fz;exact A.out.fs HNF.out (by have:=f.size;have:=j.size;omega) J.1 J.2
  clear Y L r hH;refine X8 k ⟨C1.out.cell 0,C1.out.cell 1⟩ λhH=>?_;clear k K;refine U8 7 ?_;refine U8 8 ?_;refine U8 9 ?_;refine U8 10 ?_;refine U8 11 ?_;have N:=A.out.cr.cell 1;have q2:=A.out.cr.opn 1;simp only[gz]at N;refine rq 12 λK k=>?_;go_simp;have C2:=C1.out.on (Tc E R 1 (vL U gs.length Q)) (λe=>absurd (V9 (E_ C1.out) (e▸E_ A.out.cr)) J6);clear hH;refine X8 k ⟨C2.cell 0,C2.cell 1⟩ λhH=>?_;clear k K N q2 C2;refine sq ?_;refine wdn ?_;clear hH C1 CD o A;by_cases hc:cd=0
  ·subst hc;have d:=U0 (C.out.trans (D8 rfl));clear C;go_wp2;go_ret;exact⟨⟨by rw[d.out];rfl,λm' c=>by rw[d.out]at c;cases c;exact⟨_,_,_,_,_,_,_,_,l.out O4⟩⟩,B1.out.setCell hR _⟩
  have hc':(cd==0)=false:=by simpa using hc
  have d:=U0 (C.out.trans (Y7 hc));clear C l;go_wp2;go_ret;exact⟨⟨by rw[d.out];rfl,λm' c=>by rw[d.out]at c;cases c⟩,B1.out.setCell hR _⟩
 ·have h0:=bV;have h1:=DX;have h2:=UX;have f1:=F 1;clear F;show Calls prog 117 #[_,.iface 290 (.string a)] w _;have HFZ:Hid (∀i,(m.fs.getD i T.P8).le 1048576):=λi=>⟨Q8 (I.out.ok.fz i).1 J6,Q8 (I.out.ok.fz i).2 J6⟩
  go_in
  go_upto_region 13 with fail
  go_wp2_with fail
  refine(T.a3t fa fc m.fs a w (by have:=I.out.ok.fl;omega) HFZ.out I.out.nf.1).mono ?_;rintro e E⟨⟨U,Q,cd,gs,rfl,Y,r⟩,L⟩;have A:=U0 (I.out.below L);have HNF:=U0 Y;have N:=A.out.cr.cell 1;have q2:=A.out.cr.opn 1;simp only[gz]at N;have B1:=U0 (L.mono Z);have C:Hid (dn m (Vb a)=if cd=0 then some ⟨m.ep,gs,m.s⟩ else none):=by
   show _=_;by_cases hc:cd=0
   ·subst hc;rw[D8 rfl,LW,AY r];rfl
   rw[Y7 hc,LW,JY r hc];rfl
  have l:Hid (cd=0->LJ b0 R ⟨m.ep,gs,m.s⟩ U Q H B bT bR bP rv (E.setCell (aA R 1) (vL U gs.length Q))):=λhc=>by
   subst hc;have J:=SA r I.out.ok.fz;exact A.out.fs HNF.out Z J.1 J.2
  clear Y L r X W P f1;by_cases hc:cd=0
  ·subst hc;have d:=U0 (C.out.trans (D8 rfl));clear C;go_wp2;go_ret;exact⟨⟨by rw[d.out];rfl,λm' c=>by rw[d.out]at c;cases c;exact⟨_,_,_,_,_,_,_,_,l.out O4⟩⟩,B1.out.setCell hR _⟩
  have hc':(cd==0)=false:=by simpa using hc
  have d:=U0 (C.out.trans (Y7 hc));clear C l;go_wp2;go_ret;exact⟨⟨by rw[d.out];rfl,λm' c=>by rw[d.out]at c;cases c⟩,B1.out.setCell hR _⟩
 ·have h0:=vW;have h1:=GV;have h2:=jY;have h3:=LU;clear F;show Calls prog 117 #[_,.iface 292 (.agg #[.string km.nm,.string km.tl,.string km.ar,.slice v ls.length O,.int .i64 c,.string t])] w _;have HXL:=U0 hxl;have HLK:Hid (X6 w v ls):=HLK.out;have HKO:=U0 (Vz (m:=km) (ls:=ls) (c:=c) (t:=t) I.out.ok.st);have HSK:=U0 (SL (m:=km) (ls:=ls) (c:=c) (t:=t) I.out.ok.st);have HD4:Hid (dn m (xg km ls c t)=_):=a2G;clear hxl
  go_in
  go_upto_region 16 with fail
  obtain⟨y,g⟩:∃q:World,q=w.alloc (.cells #[vS km.nm,vS km.tl,vS km.ar,vL v ls.length O,vI c,vS t] 292):=⟨_,rfl⟩;have f:Bw w y:=by rw[g];exact P6
  have o:Hid (Cl y w.heap.size 292 [vS km.nm,vS km.tl,vS km.ar,vL v ls.length O,vI c,vS t]):=by show Cl _ _ _ _;rw[g];exact U3 w [_,_,_,_,_,_] 292
  rw[<- g];have V:=U0 (I.out.below f);clear g X W P;have HS:Hid (∀u,Bw y u->u.cell? (aA R 2)=some (.pointer (some (aA H 0)))/\u.cell? (aW w 0)=some (vS km.nm)/\u.cell? (aW w 1)=some (vS km.tl)/\u.cell? (aW w 2)=some (vS km.ar)/\u.cell? (aW w 3)=some (vL v ls.length O)/\u.cell? (aW w 4)=some (vI c)/\u.cell? (aW w 5)=some (vS t)):=λu hu=>by
   have h1:=V.out.cr.below hu V.out.cr.lt;have h2:=o.out.below hu o.out.lt;exact⟨h1.cell 2,h2.cell 0,h2.cell 1,h2.cell 2,h2.cell 3,h2.cell 4,h2.cell 5⟩
  have j:Bw y y.drew:=(J4 _ _).drew;refine FO HS j Y0 λhH=>?_
  iterate 10 refine sq ?_
  have z:=U0 (V.out.below j);have LD:=U0 (Z4 (Z4 HLK.out f) j);have hgs:∀i,(m.s.rs.getD i j_).gs.length<=1048576:=λi=>Q8 (RJ I.out.ok.st i) J6;have HC:=U0 (c173 B H bT bR bP m.s.wd m.s.ts m.s.rs rv km ls c t v O y.drew z.out.sh I.out.ok.st.1 (Wp I.out.ok.st) I.out.ok.st.2.1.1 I.out.ok.st.2.2.1 hgs HXL.out.2.2.1 HXL.out.2.2.2.1.1 HXL.out.2.2.2.1.2 HXL.out.2.2.2.2 LD.out);clear hgs;refine rq 10 λK k=>?_;go_simp;refine HC.out.mono ?_;rintro e E⟨⟨rfl,hKS⟩,hbB,hKF⟩;have BD:=U0 (((f.mono Z).trans (j.mono (by have:=f.size;omega))).trans (hbB.mono I.out.hB));have CR1:Hid (Cl E R 205 [vI m.ep,vL fa m.fs.length fc,.pointer (some (aA H 0))]):=(hKF R 205 (E_ z.out.cr) J6).trans z.out.cr;have D:=(hKF w.heap.size 292 (E_ (o.out.below j o.out.lt)) J6).trans (o.out.below j o.out.lt);have D:Cl E w.heap.size 292 [vS km.nm,vS km.tl,vS km.ar,vL v ls.length O,vI c,vS t]:=D;have NF1:=U0 (Ar z.out.nf hbB.size (λq hq=>hKF q 166 hq J6) (J9 b0));have HKS:=U0 hKS;have hH1:=CR1.out.cell 2;clear HC hKS hKF hbB hH;refine X8 k ⟨hH1,D.cell 0,D.cell 1,D.cell 2,D.cell 3,D.cell 4,D.cell 5⟩ λhH=>?_;clear k K hH1 D;refine sq ?_;refine wdn ?_;clear hH HS o V z LD;obtain⟨cd,hcd⟩:∃cd,cd=t_ m.s.wd m.s.ts m.s.rs km ls c t:=⟨_,rfl⟩;rw[<- hcd]at HKO HSK HKS ⊢;clear hcd;by_cases hc:cd=0
  ·subst hc;have d:Hid (dn m (xg km ls c t)=some ⟨m.ep,m.fs,⟨m.s.wd,(Q7 m.s.wd (Sl ls c t) (m.s.ts,true)).1,yg m.s.rs (Wh m.s.wd km ls c t)⟩⟩):=by
    have h:=HD4.out;rw[HKO.out.1 rfl]at h;exact h.trans (D8 rfl)
   obtain⟨rv1,hs1⟩:=HKS.out rfl;have IF:Hid (ImM b0 R ⟨m.ep,m.fs,⟨m.s.wd,(Q7 m.s.wd (Sl ls c t) (m.s.ts,true)).1,yg m.s.rs (Wh m.s.wd km ls c t)⟩⟩ E):=⟨_,_,_,_,_,_,_,_,⟨⟨e0,e1,I.out.ok.fl,I.out.ok.fz,HSK.out rfl⟩,CR1.out,NF1.out,hs1,I.out.hB,hR⟩⟩;clear hs1 HKS HKO HSK HD4;go_wp2;go_ret;exact⟨⟨by rw[d.out];rfl,λm' c=>by rw[d.out]at c;cases c;exact IF.out⟩,BD.out⟩
  have hc':(cd==0)=false:=by simpa using hc
  have d:Hid (dn m (xg km ls c t)=none):=by
   have h:=HD4.out;rw[HKO.out.2 hc]at h;exact h.trans (Y7 hc)
  clear HKS HKO HSK HD4;go_wp2;go_ret;exact⟨⟨by rw[d.out];rfl,λm' c=>by rw[d.out]at c;cases c⟩,BD.out⟩
 have h0:=YW;have h1:=OW;have h2:=zW;have h3:=vV;have h4:=JV;have f2:=F 2;clear F;show Calls prog 117 #[_,.iface 295 (.agg #[])] w _;have d:Hid (dn m U_=_):=a2w;obtain⟨pl,hC,_⟩:=I.out.sh;have hw0:=hC.blk 0 _ rfl;have hHl:=hC.lt;clear hC
 go_in
 go_upto_region 19 with fail
 obtain⟨y,g⟩:∃q:World,q=w.alloc (.cells #[] 295):=⟨_,rfl⟩;have f:Bw w y:=by rw[g];exact P6
 rw[<- g];have q2:=(f.cell (by exact hRl)).trans P;have q0:=(f.cell (by exact hHl)).trans hw0;have V:=U0 (I.out.below f);have hys:=f.size;clear g X W P f2 hw0
 go_wp2_with fail
 refine(a2D ⟨m.s.wd,[],[]⟩ none none 0 0 y (Gs I.out.ok.st.1) (TS (Gs I.out.ok.st.1)) ⟨.inl rfl,.inl rfl⟩ (H9 hmx f)).mono ?_;rintro e w2⟨⟨H',bT',bR',bP',rv',rfl,J⟩,hb2⟩;have l:=U0 (V.out.below hb2);have I3:=U0 (l.out.ts (s':=⟨m.s.wd,[],[]⟩) J O0 (Gs I.out.ok.st.1));have p2:=l.out.cr.cell 2;have pf:=l.out.cr.opn 2;simp only[gz]at p2;have B2:=U0 ((f.mono Z).trans (hb2.mono O0));clear J hb2 q2 q0;go_wp2;go_ret;exact⟨⟨by rw[d.out];rfl,λm' c=>by rw[d.out]at c;cases c;exact⟨_,_,_,_,_,_,_,_,I3.out⟩⟩,B2.out.setCell hR _⟩
