import Derived.Test.YtdgneicbmalnpaaGreatDoorR1
import Derived.Test.YtdgneicbmalnpaaGreatDoorMG
import Derived.Test.YtdgneicbmalnpaaGreatDoorvS
set_option maxHeartbeats 0
set_option maxRecDepth 99999
set_option linter.all false
open Go.Value renaming slice->Sa,string->Sb,int->Sc,pointer->Sd
open Go.IntKind renaming i64->Se
namespace Go.Proofs.YtdgneicbmalnpaaGreatDoor
open Proofs.Tryz Go.RowKit
structure D15(w:World)(M E:List Value)(u:World):Prop where
 b:Bw w u
 hm:Cl u w.heap.size 111 M
 he:Cl u (w.heap.size+1) 171 E
 hr:Cl u (w.heap.size+1+1) 111 [Sc Se 0,Sc Se 0,Sa none 0 0,Sc Se 0,Sa none 0 0,Sa none 0 0]
section
variable{w u u' z:World}{b0 B j:Nat}{m:MS}{x:z_}{vs M E:List Value}
theorem D15.below(h:D15 w M E u)(a:Bw u u'):D15 w M E u':=⟨h.b.trans (a.mono h.b.size),h.hm.below a h.hm.lt,h.he.below a h.he.lt,h.hr.below a h.hr.lt⟩
theorem D15.put(h:D15 w M E u)(j:Nat)(v:Value):D15 w (M.set j v) E (u.setCell ⟨w.heap.size,j,none⟩ v):=
 have o:=u_ u w.heap.size j v
 ⟨h.b.trans (o.below A8),h.hm.set j v,h.he.on o O0,h.hr.on o O0⟩
theorem uz.put(h:uz u b0 m vs)(hB:Cl u B 111 M)(v:Value):uz (u.setCell ⟨B,j,none⟩ v) b0 m vs:=h.keep (λq t hT ht=>(u_ u B j v).block q (λe=>ht (N8 (e▸hT) (I_ hB))))
def a2H(w:World)(b0:Nat)(m:MS)(x:z_)(e:Ending)(w':World):Prop:=∃vs,e=.returned (.tuple #[.agg vs.toArray,.bool (dn m x).isSome])/\vs.length=6/\(∀v∈vs,v.oneCell'=true)/\(∀m',dn m x=some m'->uz w' b0 m' vs)
theorem Nh{a b c d e f:Value}(ha:a.oneCell'=true)(hb:b.oneCell'=true)(hc:c.oneCell'=true)(hd:d.oneCell'=true)(he:e.oneCell'=true)(hf:f.oneCell'=true):∀v∈[a,b,c,d,e,f],v.oneCell'=true:=λv hv=>by
 simp at hv;rcases hv with rfl|rfl|rfl|rfl|rfl|rfl<;>assumption
theorem Gv{a:Array Value}{r:Bool}(h:D15 w vs E u)(j:Cl z (w.heap.size+1+1) 111 vs)(c:Jr (w.heap.size+1+1) u z)(hl:vs.length=6)(h1:∀v∈vs,v.oneCell'=true)(hd:(dn m x).isSome=r)(i:∀m',dn m x=some m'->uz u b0 m' vs)(f:a.getD 4 undef=Sd (some ⟨w.heap.size+1+1,0,none⟩))(d:a.getD 5 undef=.bool r):bodyPost prog f109 (λe w'=>a2H w b0 m x e w'/\Bw w w') .ret ⟨a,[]⟩ z:=
 P7 (v:=.tuple #[.agg vs.toArray,.bool r]) (Va rfl a z (w.heap.size+1+1) vs (.bool r) _ f d j.blk underlying111 rfl (by rw[hl];kernel_rfl)) rfl ⟨⟨vs,by rw[hd],hl,h1,λm' g=>(i m' g).keep (λq t hT ht=>c.block q (λe=>ht (N8 (e▸hT) (I_ h.hr))))⟩,h.b.trans (c.below O0)⟩
end
section
variable{m:MS}{n c:Int}{a b t:BY}{km:M3}{ls:List L4}
theorem a0E:dn m (A_ n)=if n=m.ep+1 then some ⟨n,m.fs,m.s⟩ else none:=rfl
theorem dZ:dn m (Mc a b)=(jP m.fs ⟨a,b⟩).map λgs=>⟨m.ep,gs,m.s⟩:=rfl
theorem vX:dn m (Oc a)=(drF m.fs a).map λgs=>⟨m.ep,gs,m.s⟩:=rfl
theorem a3f:dn m (Xg km ls c t)=if (V_ m.s km ls c t).2=0 then some ⟨m.ep,m.fs,(V_ m.s km ls c t).1⟩ else none:=rfl
theorem a3E:dn m Ua=some ⟨m.ep,m.fs,⟨m.s.wd,[],[]⟩⟩:=rfl
end
theorem Au{W:Int}(h:1<=W/\W<=8):Lh ⟨W,[],[]⟩:=⟨h,⟨by show(0:Nat)<=300;omega,λk hk=>absurd hk (U8 _)⟩,by show(0:Nat)<=150;omega,λk hk=>absurd hk (U8 _)⟩
theorem EY{s:St}{m:M3}{ls:List L4}{c:Int}{t:BY}(h:Lh s)(hk:(V_ s m ls c t).2=0):Lh (V_ s m ls c t).1:=by
 obtain⟨b,a⟩:=jB (m:=m) (ls:=ls) (c:=c) (t:=t) h;by_cases hc:v_ s.wd s.ts s.rs m ls c t=0
 ·rw[b hc];exact dM h hc
 rw[a hc]at hk;exact absurd hk hc
theorem yX{s:St}{m:M3}{ls:List L4}{c:Int}{t:BY}(h:Lh s)(hk:(V_ s m ls c t).2=0):(V_ s m ls c t).1.wd=s.wd:=by
 obtain⟨b,a⟩:=jB (m:=m) (ls:=ls) (c:=c) (t:=t) h;by_cases hc:v_ s.wd s.ts s.rs m ls c t=0
 ·rw[b hc]
 rw[a hc]at hk;exact absurd hk hc
theorem uz.parts{w:World}{b0:Nat}{m:MS}{a b c d e:Value}{fv:Value}(h:uz w b0 m [a,b,fv,c,d,e]):w.ownsRow b0 169 2 fv m.fs.length (T.J3 m.fs)/\W_ w b0 m.s.ts m.s.rs d e:=by
 obtain⟨q1,q2,q3,f,i,g⟩:=h.ex;injection f with _ f;injection f with _ f;injection f with r1 f;injection f with _ f;injection f with r2 f;injection f with r3 f;subst r1 r2 r3;exact⟨i,g⟩
theorem c109(b0:Nat)(m:MS)(vs:List Value)(x:z_)(I:OA)(L:Nat)(w:World)(hM:uz w b0 m vs)(U:b0<=w.heap.size)(hx:I9 x)(J:x.le 1048576)(hlk:O9 w I x.ls):
 Calls prog 109 #[.agg vs.toArray,.agg (x.c I L).toArray] w λe w'=>a2H w b0 m x e w'/\Bw w w':=by
 obtain⟨fv,tv,rv,rfl,hf,R⟩:=hM.ex;obtain⟨fa,fc,rfl,hat⟩:=Ur hf;have HST:=U0 R;obtain⟨ta,tc,rfl⟩:=H9 R.1;obtain⟨_,vs0,hr0⟩:=R;obtain⟨ra,rc,rfl⟩:=H9 hr0.row;have k:=U0 hM;have HLK:=U0 hlk;have HAT:=U0 hat;have e0:=hM.ok.e0;have e1:=hM.ok.e1
 go_in
 go_upto_region 2 with fail
 obtain⟨W,X⟩:∃W:World,W=((w.alloc (.cells #[vO,vI m.ep,vL fa m.fs.length fc,vI m.s.wd,vL ta m.s.ts.length tc,vL ra m.s.rs.length rc] 111)).alloc (.cells (x.c I L).toArray 171)).alloc (.cells #[vO,vO,vN,vO,vN,vN] 111):=⟨_,rfl⟩;rw[<- X];have H:Hid (D15 w [vO,vI m.ep,vL fa m.fs.length fc,vI m.s.wd,vL ta m.s.ts.length tc,vL ra m.s.rs.length rc] (x.c I L) W):=by
  rw[X];exact⟨(U6.alloc J4 _).alloc L8 _,E8 (E8 (I4 w [_,_,_,_,_,_] 111) _) _,E8 (Oh J4) _,Oh (xs:=[vO,vO,vN,vO,vN,vN]) J4⟩
 clear X;have Z:=U0 (k.o.below H.o.b);have F:=H.o.he.cell 0;rcases hx with⟨n,hn,rfl⟩|⟨a,b,h,rfl⟩|⟨a,h,rfl⟩|⟨km,ls,c,t,h,rfl⟩|rfl
 ·have E:=H.o.he.cell 1;have m1:=H.o.hm.cell 1;have mf:=H.o.hm.opn 1;dsimp only[A_,z_.c,List.getElem?_cons_zero,List.getElem?_cons_succ]at F E m1;by_cases hne:n=m.ep+1;rotate_left
  ·have f:Hid (dn m (A_ n)=none):=U7 hne
   go_upto_region 5 with fail
   go_wp2_with(first|(refine yc H.o.hm rfl 111 _ rfl rfl underlying111 rfl Y0 ?_)|(refine N7 rfl 111 _ _ rfl (j:=0) rfl rfl H.o.hr A8 (Nh rfl rfl rfl rfl rfl rfl) Y0 ?_;intro z o l))
   exact Gv H.o o l rfl (Nh rfl rfl rfl rfl rfl rfl) (by rw[f.o];rfl) (λm' c=>by rw[f.o]at c;cases c) rfl rfl
  obtain rfl:=hne;have f:Hid (dn m (A_ (m.ep+1))=some ⟨m.ep+1,m.fs,m.s⟩):=by show _=_;exact a0E.trans (D8 rfl)
  have d:=U0 (H.o.put 1 (vI (m.ep+1)));have r:Hid (uz (W.setCell (aW w 1) (vI (m.ep+1))) b0 ⟨m.ep+1,m.fs,m.s⟩ [vO,vI (m.ep+1),vL fa m.fs.length fc,vI m.s.wd,vL ta m.s.ts.length tc,vL ra m.s.rs.length rc]):=by
   have h:=Z.o.put (j:=1) H.o.hm (vI (m.ep+1));obtain⟨q5,q6⟩:=h.parts;exact⟨⟨by show 0<=m.ep+1;omega,hn.2,h.ok.fl,h.ok.fz,h.ok.st⟩,_,_,_,rfl,q5,q6⟩
  go_upto_region 15 with fail
  dsimp only[List.set_cons_succ,List.set_cons_zero]at d;generalize W.setCell (aW w 1) (vI (m.ep+1))=V at*
  go_wp2_with(first|(refine yc d.o.hm rfl 111 _ rfl rfl underlying111 rfl Y0 ?_)|(refine N7 rfl 111 _ _ rfl (j:=0) rfl rfl d.o.hr A8 (Nh rfl rfl rfl rfl rfl rfl) Y0 ?_;intro z o l))
  exact Gv d o l rfl (Nh rfl rfl rfl rfl rfl rfl) (by rw[f.o];rfl) (λm' c=>by rw[f.o]at c;cases c;exact r.o) rfl rfl
 ·have E:=H.o.he.cell 2;have Q:=H.o.he.cell 3;have m2:=H.o.hm.cell 2;have HX4:Hid ((⟨a,b⟩:T.F2).le 4000):=⟨by have:=YU h.1;show a.size<=4000;omega,by show b.size<=4000;omega⟩;dsimp only[Mc,z_.c,List.getElem?_cons_zero,List.getElem?_cons_succ]at F E Q m2
  go_upto_region 8 with fail
  go_wp2_with fail
  refine(T.a4u fa fc m.fs ⟨a,b⟩ W (by have:=k.o.ok.fl;omega) k.o.ok.fz HX4 (T.J5 HAT H.o.b)).mono ?_;rintro e w1⟨⟨v,cd,gs,rfl,ho,_,_,hR⟩,y⟩;obtain⟨q,p,rfl⟩:=H9 ho;have g:=U0 (H.o.below y);have Y:=g.o.hm.cell 2;have f2:=g.o.hm.opn 2;simp only[gz]at Y
  go_upto_region 15 with fail
  have d:=U0 (g.o.put 2 (vL q gs.length p));dsimp only[List.set_cons_succ,List.set_cons_zero]at d;have r:Hid (cd=0->uz (w1.setCell (aW w 2) (vL q gs.length p)) b0 ⟨m.ep,gs,m.s⟩ [vO,vI m.ep,vL q gs.length p,vI m.s.wd,vL ta m.s.ts.length tc,vL ra m.s.rs.length rc]):=λhc=>by
   subst hc;have hs:=IE hR k.o.ok.fz;have h:uz w1 b0 ⟨m.ep,gs,m.s⟩ [vO,vI m.ep,vL q gs.length p,vI m.s.wd,vL ta m.s.ts.length tc,vL ra m.s.rs.length rc]:=⟨⟨e0,e1,hs.1,hs.2,k.o.ok.st⟩,_,_,_,rfl,I7 ho (X7 U H.o.b.size),(k.o.below g.o.b).parts.2⟩;exact h.put g.o.hm _
  have u:Hid (dn m (Mc a b)=if cd=0 then some ⟨m.ep,gs,m.s⟩ else none):=by
   show _=_;by_cases hc:cd=0
   ·subst hc;rw[D8 rfl];rw[dZ,uV hR];rfl
   rw[U7 hc];rw[dZ,xR hR hc];rfl
  generalize w1.setCell (aW w 2) (vL q gs.length p)=V at*;by_cases hc:cd=0
  ·subst hc;have f:=U0 (u.o.trans (D8 rfl))
   go_wp2_with(first|(refine yc d.o.hm rfl 111 _ rfl rfl underlying111 rfl Y0 ?_)|(refine N7 rfl 111 _ _ rfl (j:=0) rfl rfl d.o.hr A8 (Nh rfl rfl rfl rfl rfl rfl) Y0 ?_;intro z o l))
   exact Gv d o l rfl (Nh rfl rfl rfl rfl rfl rfl) (by rw[f.o];rfl) (λm' c=>by rw[f.o]at c;cases c;exact r.o J4) rfl rfl
  have hc':(cd==0)=false:=by simpa using hc
  have f:=U0 (u.o.trans (U7 hc))
  go_wp2_with(first|(refine yc d.o.hm rfl 111 _ rfl rfl underlying111 rfl Y0 ?_)|(refine N7 rfl 111 _ _ rfl (j:=0) rfl rfl d.o.hr A8 (Nh rfl rfl rfl rfl rfl rfl) Y0 ?_;intro z o l))
  exact Gv d o l rfl (Nh rfl rfl rfl rfl rfl rfl) (by rw[f.o];rfl) (λm' c=>by rw[f.o]at c;cases c) rfl rfl
 ·have E:=H.o.he.cell 2;have Q:=H.o.he.cell 3;have m2:=H.o.hm.cell 2;have HFZ:Hid (∀i,(m.fs.getD i T.o9).le 1048576):=λi=>⟨X7 (k.o.ok.fz i).1 U5,X7 (k.o.ok.fz i).2 U5⟩;dsimp only[Oc,z_.c,List.getElem?_cons_zero,List.getElem?_cons_succ]at F E Q m2
  go_upto_region 10 with fail
  go_wp2_with fail
  refine(T.c154 fa fc m.fs a W (by have:=k.o.ok.fl;omega) HFZ (T.J5 HAT H.o.b)).mono ?_;rintro e w1⟨⟨v,cd,gs,rfl,ho,hR⟩,y⟩;obtain⟨q,p,rfl⟩:=H9 ho;have g:=U0 (H.o.below y);have Y:=g.o.hm.cell 2;have f2:=g.o.hm.opn 2;simp only[gz]at Y
  go_upto_region 15 with fail
  have d:=U0 (g.o.put 2 (vL q gs.length p));dsimp only[List.set_cons_succ,List.set_cons_zero]at d;have r:Hid (cd=0->uz (w1.setCell (aW w 2) (vL q gs.length p)) b0 ⟨m.ep,gs,m.s⟩ [vO,vI m.ep,vL q gs.length p,vI m.s.wd,vL ta m.s.ts.length tc,vL ra m.s.rs.length rc]):=λhc=>by
   subst hc;have hs:=lC hR k.o.ok.fz;have h:uz w1 b0 ⟨m.ep,gs,m.s⟩ [vO,vI m.ep,vL q gs.length p,vI m.s.wd,vL ta m.s.ts.length tc,vL ra m.s.rs.length rc]:=⟨⟨e0,e1,hs.1,hs.2,k.o.ok.st⟩,_,_,_,rfl,I7 ho (X7 U H.o.b.size),(k.o.below g.o.b).parts.2⟩;exact h.put g.o.hm _
  have u:Hid (dn m (Oc a)=if cd=0 then some ⟨m.ep,gs,m.s⟩ else none):=by
   show _=_;by_cases hc:cd=0
   ·subst hc;rw[D8 rfl];rw[vX,a0s hR];rfl
   rw[U7 hc];rw[vX,a0r hR hc];rfl
  generalize w1.setCell (aW w 2) (vL q gs.length p)=V at*;by_cases hc:cd=0
  ·subst hc;have f:=U0 (u.o.trans (D8 rfl))
   go_wp2_with(first|(refine yc d.o.hm rfl 111 _ rfl rfl underlying111 rfl Y0 ?_)|(refine N7 rfl 111 _ _ rfl (j:=0) rfl rfl d.o.hr A8 (Nh rfl rfl rfl rfl rfl rfl) Y0 ?_;intro z o l))
   exact Gv d o l rfl (Nh rfl rfl rfl rfl rfl rfl) (by rw[f.o];rfl) (λm' c=>by rw[f.o]at c;cases c;exact r.o J4) rfl rfl
  have hc':(cd==0)=false:=by simpa using hc
  have f:=U0 (u.o.trans (U7 hc))
  go_wp2_with(first|(refine yc d.o.hm rfl 111 _ rfl rfl underlying111 rfl Y0 ?_)|(refine N7 rfl 111 _ _ rfl (j:=0) rfl rfl d.o.hr A8 (Nh rfl rfl rfl rfl rfl rfl) Y0 ?_;intro z o l))
  exact Gv d o l rfl (Nh rfl rfl rfl rfl rfl rfl) (by rw[f.o];rfl) (λm' c=>by rw[f.o]at c;cases c) rfl rfl
 ·have k4:=H.o.he.cell 4;have k5:=H.o.he.cell 5;have k6:=H.o.he.cell 6;have k7:=H.o.he.cell 7;have k8:=H.o.he.cell 8;have k9:=H.o.he.cell 9;have P:=H.o.hm.cell 3;have O:=H.o.hm.cell 4;have N:=H.o.hm.cell 5;dsimp only[Xg,z_.c,List.getElem?_cons_zero,List.getElem?_cons_succ]at F k4 k5 k6 k7 k8 k9 P O N;have S:=a5Y m.s km ls c t b0 ta ra I tc rc L W (pU k.o.ok.st) J.2.2.1 J.2.2.2.1.1 J.2.2.2.1.2 J.2.2.2.2 Z.o.parts.2 (Q7 HLK H.o.b);have HKS:=U0 (EY (m:=km) (ls:=ls) (c:=c) (t:=t) k.o.ok.st);have HKW:=U0 (yX (m:=km) (ls:=ls) (c:=c) (t:=t) k.o.ok.st);have u:Hid (dn m (Xg km ls c t)=_):=a3f;unfold Rx at S;generalize V_ m.s km ls c t=K at*
  go_upto_region 12 with fail
  go_wp2_with fail
  refine S.mono ?_;rintro e w1⟨⟨B,A,D,C,rfl,ho⟩,y⟩;have g:=U0 (H.o.below y);have d3:=g.o.hm.cell 3;have d4:=g.o.hm.cell 4;have d5:=g.o.hm.cell 5;have f3:=g.o.hm.opn 3;have f4:=g.o.hm.opn 4;have f5:=g.o.hm.opn 5;simp only[gz]at d3 d4 d5
  go_upto_region 15 with fail
  have d:=U0 (((g.o.put 3 (vI K.1.wd)).put 4 (vL B K.1.ts.length A)).put 5 (vL D K.1.rs.length C));dsimp only[List.set_cons_succ,List.set_cons_zero]at d;have r:Hid (K.2=0->uz (((w1.setCell (aW w 3) (vI K.1.wd)).setCell (aW w 4) (vL B K.1.ts.length A)).setCell (aW w 5) (vL D K.1.rs.length C)) b0 ⟨m.ep,m.fs,K.1⟩ [vO,vI m.ep,vL fa m.fs.length fc,vI K.1.wd,vL B K.1.ts.length A,vL D K.1.rs.length C]):=λhc=>by
   have h:uz w1 b0 ⟨m.ep,m.fs,K.1⟩ [vO,vI m.ep,vL fa m.fs.length fc,vI K.1.wd,vL B K.1.ts.length A,vL D K.1.rs.length C]:=⟨⟨e0,e1,k.o.ok.fl,k.o.ok.fz,HKS hc⟩,_,_,_,rfl,(k.o.below g.o.b).parts.1,Ij ho (X7 U H.o.b.size)⟩;exact((h.put g.o.hm _).put (g.o.put 3 _).hm _).put ((g.o.put 3 _).put 4 _).hm _
  clear y d3 d4 d5 f3 f4 f5 g ho S;generalize ((w1.setCell (aW w 3) (vI K.1.wd)).setCell (aW w 4) (vL B K.1.ts.length A)).setCell (aW w 5) (vL D K.1.rs.length C)=V at*;obtain⟨cd,hcd⟩:∃cd,cd=K.2:=⟨_,rfl⟩;rw[<- hcd]at u r ⊢;clear hcd;by_cases hc:cd=0
  ·subst hc;have f:=U0 (u.o.trans (D8 rfl));clear u
   go_wp2_with(first|(refine yc d.o.hm rfl 111 _ rfl rfl underlying111 rfl Y0 ?_)|(refine N7 rfl 111 _ _ rfl (j:=0) rfl rfl d.o.hr A8 (Nh rfl rfl rfl rfl rfl rfl) Y0 ?_;intro z o l))
   exact Gv d.o o l rfl (Nh rfl rfl rfl rfl rfl rfl) (by rw[f.o];rfl) (λm' c=>by rw[f.o]at c;cases c;exact r.o J4) rfl rfl
  have hc':(cd==0)=false:=by simpa using hc
  have f:=U0 (u.o.trans (U7 hc))
  go_wp2_with(first|(refine yc d.o.hm rfl 111 _ rfl rfl underlying111 rfl Y0 ?_)|(refine N7 rfl 111 _ _ rfl (j:=0) rfl rfl d.o.hr A8 (Nh rfl rfl rfl rfl rfl rfl) Y0 ?_;intro z o l))
  exact Gv d o l rfl (Nh rfl rfl rfl rfl rfl rfl) (by rw[f.o];rfl) (λm' c=>by rw[f.o]at c;cases c) rfl rfl
 have P:=H.o.hm.cell 3;have O:=H.o.hm.cell 4;have N:=H.o.hm.cell 5;have f3:=H.o.hm.opn 3;have f4:=H.o.hm.opn 4;have f5:=H.o.hm.opn 5;dsimp only[Ua,z_.c,List.getElem?_cons_zero,List.getElem?_cons_succ]at F P O N;have f:Hid (dn m Ua=_):=a3E
 go_upto_region 15 with fail
 have d:=U0 (((H.o.put 3 (vI m.s.wd)).put 4 vN).put 5 vN);dsimp only[List.set_cons_succ,List.set_cons_zero]at d;have r:Hid (uz (((W.setCell (aW w 3) (vI m.s.wd)).setCell (aW w 4) vN).setCell (aW w 5) vN) b0 ⟨m.ep,m.fs,⟨m.s.wd,[],[]⟩⟩ [vO,vI m.ep,vL fa m.fs.length fc,vI m.s.wd,vN,vN]):=by
  have h:uz W b0 ⟨m.ep,m.fs,⟨m.s.wd,[],[]⟩⟩ [vO,vI m.ep,vL fa m.fs.length fc,vI m.s.wd,vN,vN]:=⟨⟨e0,e1,k.o.ok.fl,k.o.ok.fz,Au k.o.ok.st.1⟩,_,_,_,rfl,Z.o.parts.1,Xr _ _⟩;exact((h.put H.o.hm _).put (H.o.put 3 _).hm _).put ((H.o.put 3 _).put 4 _).hm _
 generalize ((W.setCell (aW w 3) (vI m.s.wd)).setCell (aW w 4) vN).setCell (aW w 5) vN=V at*
 go_wp2_with(first|(refine yc d.o.hm rfl 111 _ rfl rfl underlying111 rfl Y0 ?_)|(refine N7 rfl 111 _ _ rfl (j:=0) rfl rfl d.o.hr A8 (Nh rfl rfl rfl rfl rfl rfl) Y0 ?_;intro z o l))
 exact Gv d o l rfl (Nh rfl rfl rfl rfl rfl rfl) (by rw[f.o];rfl) (λm' c=>by rw[f.o]at c;cases c;exact r.o) rfl rfl
end Go.Proofs.YtdgneicbmalnpaaGreatDoor
namespace Go.Proofs.YtdgneicbmalnpaaGreatDoor
open Proofs.Tryz Go.RowKit
def m00(W:Int):MS:=⟨0,[],⟨W,[],[]⟩⟩
def Dz(es:LB)(W:Int):Prop:=(1<=W/\W<=8)/\es.length<=1000
def Rp5(w:World)(es:LB)(W:Int)(e:Ending)(w':World):Prop:=∃vs,e=.returned (.agg vs.toArray)/\((¬Dz es W/\vs=[Sc Se 1,Sc Se 0,Sa none 0 0,Sc Se 0,Sa none 0 0,Sa none 0 0])\/(Dz es W/\∃o,KI RES es (m00 W) o/\((o=none/\vs=[Sc Se 2,Sc Se 0,Sa none 0 0,Sc Se 0,Sa none 0 0,Sa none 0 0])\/∃m,o=some m/\uz w' w.heap.size m vs)))
structure Q5(w:World)(B:Nat)(m:MS)(vs:List Value)(u:World):Prop where
 b:Bw w u
 hB:w.heap.size<B
 hr:Cl u w.heap.size 111 [Sc Se 0,Sc Se 0,Sa none 0 0,Sc Se 0,Sa none 0 0,Sa none 0 0]
 hm:Cl u B 111 vs
 sp:uz u w.heap.size m vs
section
variable{w u u' z:World}{m:MS}{vs:List Value}{es:LB}{W:Int}
theorem Q5.below{B:Nat}(h:Q5 w B m vs u)(a:Bw u u'):Q5 w B m vs u':=⟨h.b.trans (a.mono h.b.size),h.hB,h.hr.below a h.hr.lt,h.hm.below a h.hm.lt,h.sp.below a⟩
def upd(f:Nat->z_)(k:Nat)(x:z_):Nat->z_:=λj=>if j=k then x else f j
theorem xM{f:Nat->z_}{k:Nat}{x:z_}:upd f k x k=x:=D8 rfl
theorem pM{f:Nat->z_}{k j:Nat}{x:z_}(h:j<k):upd f k x j=f j:=U7 O0
section
variable{R:List UInt8->z_->Bool->Prop}{m0 m m':MS}{f:Nat->z_}{k:Nat}{x:z_}
theorem Sz(hF:∀j,j<k->R (eL es j) (f j) true)(hR:rn f m0 k=some m)(hx:R (eL es k) x true)(hd:dn m x=some m'):(∀j,j<k+1->R (eL es j) (upd f k x j) true)/\rn (upd f k x) m0 (k+1)=some m':=by
 refine⟨λj a=>?_,?_⟩
 ·by_cases h:j=k
  ·subst h;rw[xM];exact hx
  rw[pM O0];exact hF j O0
 show(rn _ _ k).bind _=_;rw[Cm (g:=f) k (λj a=>pM a),hR];show dn m _=_;rw[xM];exact hd
theorem dQ(b:k<es.length)(hF:∀j,j<k->R (eL es j) (f j) true)(hR:rn f m0 k=some m)(hx:R (eL es k) x true)(hd:dn m x=none):KI R es m0 none:=
 .inr ⟨rfl,k,upd f k x,m,b,λj a=>(by rw[pM a];exact hF j a),(Cm k (λj a=>pM a)).trans hR,.inr ⟨(by rw[xM];exact hx),(by rw[xM];exact hd)⟩⟩
theorem VZ(a:k<es.length)(hF:∀j,j<k->R (eL es j) (f j) true)(hR:rn f m0 k=some m)(hx:R (eL es k) Fj false):KI R es m0 none:=.inr ⟨rfl,k,f,m,a,hF,hR,.inl hx⟩
theorem pR(hF:∀j,j<es.length->R (eL es j) (f j) true)(hR:rn f m0 es.length=some m):KI R es m0 (some m):=.inl ⟨f,m,hF,hR,rfl⟩
end
theorem kU{a b c d e f:Value}(h:vs.length=6):Dp [a,b,c,d,e,f] 0 vs=vs:=by
 unfold Dp;rw[h];simp
theorem a2p(h:1<=W/\W<=8):MOk (m00 W):=⟨by show(0:Int)<=0;omega,by show(0:Int)<=200;omega,by show(0:Nat)<=40;omega,λi=>⟨by show(0:Nat)<=4000;omega,by show(0:Nat)<=4000;omega⟩,Au h⟩
theorem lU{a:Array Value}(n:Int)(hc:Cl u w.heap.size 111 [Sc Se 0,Sc Se 0,Sa none 0 0,Sc Se 0,Sa none 0 0,Sa none 0 0])(g:Cl z w.heap.size 111 vs)(b:Jr w.heap.size u z)(d:Bw w u)(hl:vs.length=6)(c:a.getD 4 undef=Sd (some ⟨w.heap.size,0,none⟩))(f:∀z:World,(∀q t,oh u q t->t≠111->z.heap[q]?=u.heap[q]?)->Rp5 w es W (.returned (.agg vs.toArray)) z):bodyPost prog f61 (λe w'=>Rp5 w es W e w'/\Bw w w') .ret ⟨a,[]⟩ z:=
 P7 (v:=.agg vs.toArray) (l7 (P:=prog) (ty:=111) rfl a z w.heap.size vs _ c g.blk underlying111 rfl (by rw[hl];kernel_rfl)) rfl ⟨f z (λq t hT ht=>b.block q (λe=>ht (N8 (e▸hT) (I_ hc)))),d.trans (b.below A8)⟩
end
theorem c61(a:OA)(cap:Nat)(es:LB)(W:Int)(w:World)(hl:es.length<=1048576)(hs:∀i,(es.getD i ByteArray.empty).size<=1048576)(hat:J8 w a es):
 Calls prog 61 #[Sa a es.length cap,Sc Se W] w λe w'=>Rp5 w es W e w'/\Bw w w':=by
 have HAT:=U0 hat;have HSZ:=U0 hs;clear hat hs
 go_in
 go_upto_region 1 with fail
 obtain⟨V,hV⟩:∃V:World,V=w.alloc (.cells #[vO,vO,vN,vO,vN,vN] 111):=⟨_,rfl⟩;rw[<- hV];have A:Bw w V:=by rw[hV];exact U6
 have o:Hid (Cl V w.heap.size 111 [vO,vO,vN,vO,vN,vN]):=by show Cl _ _ _ _;rw[hV];exact I4 w [vO,vO,vN,vO,vN,vN] 111
 have hz:V.heap.size=w.heap.size+1:=by rw[hV];simp
 have HZ:=U0 hz;clear hV hz;have l:Hid (∀v∈([vI 1,vO,vN,vO,vN,vN]:List Value),v.oneCell'=true):=Nh rfl rfl rfl rfl rfl rfl;by_cases hw:1<=W/\W<=8;rotate_left
 ·have Y:Hid (¬Dz es W):=λh=>hw h.1;have hd:=j_ hw
  go_wp2_with fail
  refine(c59 W V).mono ?_;rintro e V1⟨rfl,O⟩;obtain rfl:=O.symm;rw[hd]
  go_wp2_with(refine N7 rfl 111 _ _ rfl (j:=0) rfl rfl o.o A8 l.o Y0 ?_;intro z g d)
  exact lU 1 o g d A rfl rfl (λz _=>⟨_,rfl,.inl ⟨Y,rfl⟩⟩)
 have hd:=X_ hw
 go_wp2_with fail
 refine(c59 W V).mono ?_;rintro e V1⟨rfl,O⟩;obtain rfl:=O.symm;rw[hd];by_cases hbig:1000<es.length
 ·have Y:Hid (¬Dz es W):=λh=>by have:=h.2;omega
  have K:(1000:Int)<es.length:=O0
  go_wp2_with(refine N7 rfl 111 _ _ rfl (j:=0) rfl rfl o.o A8 l.o Y0 ?_;intro z g d)
  exact lU 1 o g d A rfl rfl (λz _=>⟨_,rfl,.inl ⟨Y,rfl⟩⟩)
 have K:¬(1000:Int)<es.length:=O0;have X:Hid (Dz es W):=⟨hw,O0⟩
 go_upto_region 4 with fail
 obtain⟨U,Q⟩:∃U:World,U=V.alloc (.cells #[vO,vO,vN,vI W,vN,vN] 111):=⟨_,rfl⟩;rw[<- Q];have HQ:Hid (Q5 w V.heap.size (m00 W) [vO,vO,vN,vI W,vN,vN] U):=by
  rw[Q];exact⟨A.alloc A.size _,by rw[HZ.o];omega,E8 o.o _,I4 V [_,_,_,_,_,_] 111,a2p hw,_,_,_,rfl,M_ _ _ _ _,Xr _ _⟩
 clear Q o;generalize V.heap.size=B at*;clear A HZ hd;go_wp2;go_loopw[6] (λi wr=>∃(k:Nat)(f:Nat->z_)(m:MS)(vs:List Value),i=Sc Se k/\k<=es.length/\Hid (∀j,j<k->RES (eL es j) (f j) true)/\Hid (rn f (m00 W) k=some m)/\Hid (Q5 w B m vs wr)) (λi _=>es.length-(RowKit.intOf i).toNat);exact⟨0,λ_=>Fj,_,_,rfl,Y4 _,λj h=>absurd h (U8 _),rfl,HQ⟩;obtain⟨k,f,m,vs,rfl,hk,I,F,H⟩:=hrel;clear HQ;have hsp:=H.o.sp.ex;obtain⟨fv,tv,rv,rfl,hfo,hso⟩:=hsp;obtain⟨fa,fc,rfl⟩:=H9 hfo;obtain⟨ta,tc,rfl⟩:=H9 hso.1;obtain⟨_,vs0,hr0⟩:=hso;obtain⟨ra,rc,rfl⟩:=H9 hr0.row;clear hr0 hfo;have HLD:Hid (∀(q:Nat)(v:Value),([vO,vI m.ep,vL fa m.fs.length fc,vI m.s.wd,vL ta m.s.ts.length tc,vL ra m.s.rs.length rc]:List Value)[q]?=some v->wr.cell? (aA B (0+q))=some v):=λq v e=>by rw[Y8];exact(H.o.hm.cell q).trans e
 by_cases J:k<es.length;rotate_left
 ·obtain rfl:k=es.length:=O0;have l:Hid (∀v∈([vO,vI m.ep,vL fa m.fs.length fc,vI m.s.wd,vL ta m.s.ts.length tc,vL ra m.s.rs.length rc]:List Value),v.oneCell'=true):=Nh rfl rfl rfl rfl rfl rfl
  go_wp2_with(first|(refine Oa rfl (N9 111 _ rfl (B:=B) (j:=0) (cs:=[vO,vI m.ep,vL fa m.fs.length fc,vI m.s.wd,vL ta m.s.ts.length tc,vL ra m.s.rs.length rc]) rfl HLD.o underlying111 rfl Y0) ?_)|(refine N7 rfl 111 _ _ rfl (j:=0) rfl rfl H.o.hr A8 l.o Y0 ?_;intro z g d))
  exact lU 0 H.o.hr g d H.o.b rfl rfl (λz hz=>⟨_,rfl,.inr ⟨X,_,pR I F,.inr ⟨m,rfl,H.o.sp.keep hz⟩⟩⟩)
 obtain⟨b,off,hst⟩:=Aa (G6 HAT.o H.o.b);obtain⟨rfl,hbw,hce⟩:=Ud hst J;have hc0:=hce k J;clear hce;have HRD:=U0 (a5m (es.getD k ByteArray.empty) wr (HSZ k));have HEL:Hid ((es.getD k ByteArray.empty).data.toList=eL es k):=rfl;generalize es.getD k ByteArray.empty=s at*
 go_upto_region 7 with fail
 go_wp2_with fail
 refine HRD.o.mono ?_;rintro e w1⟨⟨x,ok,C,u,rfl,hx,hxz,hxl,hlk⟩,K⟩;rw[HEL.o]at hx;have H1:=U0 (H.o.below K);have D:=U0 hx;have HXZ:=U0 hxz;have HXL:=U0 hxl;have L:=U0 hlk;clear HRD hx hxz hxl hlk H hc0 HLD;dsimp only[z_.c]
 go_upto_region 8 with fail
 obtain⟨y,r⟩:∃q:World,q=w1.alloc (.cells (x.c C u).toArray 171):=⟨_,rfl⟩;have R:Bw w1 y:=by rw[r];exact U6
 have CE:Hid (Cl y w1.heap.size 171 (x.c C u)):=by show Cl _ _ _ _;rw[r];exact I4 w1 _ 171
 dsimp only[z_.c]at r;rw[<- r];have H:=U0 (H1.o.below R);have L:=U0 (Q7 L R);clear r R H1 K;generalize w1.heap.size=E at*;cases ok
 ·obtain⟨hz1,hz2,hz3⟩:=HXZ.o rfl;have HBAD:=U0 (hz1▸D.o);have l:Hid (∀v∈([vI 2,vO,vN,vO,vN,vN]:List Value),v.oneCell'=true):=Nh rfl rfl rfl rfl rfl rfl;clear hz1 hz2 hz3
  go_wp2_with(refine N7 rfl 111 _ _ rfl (j:=0) rfl rfl H.o.hr A8 l.o Y0 ?_;intro z g d)
  exact lU 2 H.o.hr g d H.o.b rfl rfl (λz hz=>⟨_,rfl,.inr ⟨X,_,VZ J I F HBAD,.inl ⟨rfl,rfl⟩⟩⟩)
 have HEN:=U0 (D.o.1 rfl).1;have HLM:Hid (∀(q:Nat)(v:Value),([vO,vI m.ep,vL fa m.fs.length fc,vI m.s.wd,vL ta m.s.ts.length tc,vL ra m.s.rs.length rc]:List Value)[q]?=some v->y.cell? (aA B (0+q))=some v):=λq v e=>by rw[Y8];exact(H.o.hm.cell q).trans e
 have HLE:Hid (∀(q:Nat)(v:Value),(x.c C u)[q]?=some v->y.cell? (aA E (0+q))=some v):=λq v e=>by rw[Y8];exact(CE.o.cell q).trans e
 have HC:=U0 (c109 w.heap.size m _ x C u y H.o.sp H.o.b.size HEN HXL L)
 go_upto_region 10 with fail
 go_wp2_with(first|(refine Oa rfl (N9 111 _ rfl (B:=B) (j:=0) (cs:=[vO,vI m.ep,vL fa m.fs.length fc,vI m.s.wd,vL ta m.s.ts.length tc,vL ra m.s.rs.length rc]) rfl HLM.o underlying111 rfl Y0) ?_)|(refine Oa rfl (N9 171 _ rfl (B:=E) (j:=0) (cs:=x.c C u) rfl HLE.o underlying171 rfl Y0) ?_))
 refine HC.o.mono ?_;rintro e Z⟨⟨p,rfl,P,ho2,hS2⟩,hb2⟩;have n:=U0 (H.o.below hb2);have HO2:=U0 ho2;have HS2:=U0 hS2;have HI2:Hid ((prog.info? 111).map (·.size)=some p.length):=by show _=_;rw[P];kernel_rfl
 have HL2:Hid (0+p.length<=([vO,vI m.ep,vL fa m.fs.length fc,vI m.s.wd,vL ta m.s.ts.length tc,vL ra m.s.rs.length rc]:List Value).length):=by show _<=_;rw[P];exact Y7 _
 have HPL:Hid (Dp [vO,vI m.ep,vL fa m.fs.length fc,vI m.s.wd,vL ta m.s.ts.length tc,vL ra m.s.rs.length rc] 0 p=p):=kU P;clear HC ho2 hS2 hb2 H HLM HLE CE L HXL
 go_upto_region 11 with(refine N7 rfl 111 _ _ rfl (j:=0) rfl rfl n.o.hm HL2.o HO2.o HI2.o ?_;intro z g d)
 rw[HPL.o]at g;have CZ:=U0 g;have S:=U0 (n.o.hr.on d (by have:=n.o.hB;omega));have BZ:=U0 (n.o.b.trans (d.below (yw n.o.hB)));have KZ:Hid (∀q t,oh Z q t->t≠111->z.heap[q]?=Z.heap[q]?):=λq t hT ht=>d.block q (λe=>ht (N8 (e▸hT) (I_ n.o.hm)));have hBB:=n.o.hB;clear g d n HL2 HI2 HPL
 cases hd:dn m x with
 | none=>
  have N:=U0 hd;have l:Hid (∀v∈([vI 2,vO,vN,vO,vN,vN]:List Value),v.oneCell'=true):=Nh rfl rfl rfl rfl rfl rfl;clear hd
  go_wp2_with(refine N7 rfl 111 _ _ rfl (j:=0) rfl rfl S.o A8 l.o Y0 ?_;intro z2 cz2 oz2)
  exact lU 2 S cz2 oz2 BZ rfl rfl (λz hz=>⟨_,rfl,.inr ⟨X,_,dQ J I F D N,.inl ⟨rfl,rfl⟩⟩⟩)
 | some m'=>
  have N:=U0 hd;have HSP:=U0 ((HS2 m' hd).keep KZ);clear hd HS2 KZ;go_wp2;go_roundw;exact⟨k+1,upd f k x,m',p,by go_num,O0,(Sz I.o F.o D.o N.o).1,(Sz I.o F.o D.o N.o).2,BZ.o,hBB,S.o,CZ.o,HSP.o⟩;exact V9
end Go.Proofs.YtdgneicbmalnpaaGreatDoor
namespace Go.Proofs.YtdgneicbmalnpaaGreatDoor
open Proofs.Tryz Go.RowKit
section
variable{w w' u u':World}{B B' R H bT bR bP j n:Nat}{W:Int}{l pl:List (ByteArray×Value)}{rs:List R3}{rv:List Value}{v x0 x1 x2:Value}{x:R3}{a:OA}{gs:List T.F2}
theorem yg{g:Nat}(h:w'.heap[g]?=w.heap[g]?)(j:Nat):w'.cell? ⟨g,j,none⟩=w.cell? ⟨g,j,none⟩:=by simp only[World.cell?,h]
theorem aF{g:Nat}(h:w'.heap[g]?=w.heap[g]?)(j:Nat):w'.frozen? ⟨g,j,none⟩=w.frozen? ⟨g,j,none⟩:=by simp only[World.frozen?,h]
theorem eu(h:T.Wn B w a gs)(hs:w.heap.size<=w'.heap.size)(hk:∀q,oh w q 169->w'.heap[q]?=w.heap[q]?)(hB:B'<=B):T.Wn B' w' a gs:=by
 obtain⟨hf,h⟩:=h;rcases h with rfl|⟨g,rfl,hg,ho,ht⟩
 ·exact⟨.inl rfl,.inl rfl⟩
 have e:=hk g (T.a2Q ht);refine⟨?_,.inr ⟨g,rfl,O0,⟨P9 ho.1 hs,λj c=>by rw[yg e];exact ho.2.1 j c,λj=>by rw[aF e];exact ho.2.2 j⟩,?_⟩⟩
 ·rcases hf with h0|⟨b,off,h1,h2,f⟩
  ·exact .inl h0
  injection h1 with h1;injection h1 with h1 h4;subst h1 h4;exact .inr ⟨g,0,rfl,P9 h2 hs,λi d=>by rw[yg e,yg e];exact f i d⟩
 obtain⟨cur,hc⟩:=ht;exact⟨cur,e.trans hc⟩
theorem a1n(w:World)(R j:Nat)(v:Value):w.grownBy (w.setCell ⟨R,j,none⟩ v) (some R):=
 have o:=u_ w R j v
 ⟨o.os,o.tape,o.output,Vf o.size.symm,λk _ h=>o.block k (λe=>h (by rw[e]))⟩
theorem iO(h:LC B w v x)(hR:Cl w R 241 [Sc Se W,Sa a n j,Sd (some ⟨H,0,none⟩)])(i:Nat)(y:Value):LC B (w.setCell ⟨R,i,none⟩ y) v x:=by
 obtain⟨a,c,hv,p,m⟩:=h;have o:=u_ w R i y;rcases p with h0|⟨b,off,ha,l,hc⟩
 ·exact⟨a,c,hv,.inl h0,.inl h0⟩
 by_cases hl:x.gs=[]
 ·exact⟨a,c,hv,.inl hl,.inl hl⟩
 have k:b≠R:=λe=>by
  subst e;have h0:=(hc 0 (dm.2 hl)).1;rw[hR.cell]at h0;rcases(by omega:off+0*3=0\/off+0*3=1\/off+0*3=2\/3<=off+0*3)with e|e|e|e
  ·rw[e]at h0;cases h0
  ·rw[e]at h0;cases h0
  ·rw[e]at h0;cases h0
  rw[Eb (by simpa using e)]at h0;cases h0
 have e:=o.block b k;refine⟨a,c,hv,.inr ⟨b,off,ha,by rw[o.size];exact l,λq g=>by rw[yg e,yg e,yg e];exact hc q g⟩,m.imp id ?_⟩;rintro⟨b',f,d,h⟩;obtain⟨rfl,rfl⟩:b'=b/\f=off:=by rw[ha]at d;injection d with d;injection d with h1 h2;exact⟨h1.symm,h2.symm⟩
 exact⟨b',f,d,h.imp id (λ⟨cur,fr,hc⟩=>⟨cur,fr,e.trans hc⟩)⟩
theorem Sh.a1i(h:Sh B H bT bR bP W l rs rv w){ep:Int}{p:Nat}(hR:Cl w R 241 [Sc Se ep,Sa a n j,Sd (some ⟨p,0,none⟩)])(i:Nat)(y:Value):Sh B H bT bR bP W l rs rv (w.setCell ⟨R,i,none⟩ y):=by
 obtain⟨pl,hC,hr⟩:=h;have g:=a1n w R i y;have hm:∀{k:TypeId}{F:Value->Option (DataW Value×List MemPlace)}{b n:Nat}{m:DataW Value},w.ownsMap prog k F b n m->some b≠some R:=λh e=>by
  obtain⟨es,ck,c⟩:=Ic h;obtain rfl:=C_ e;unfold Cl at hR;rw[hR]at c;cases c
 refine⟨pl,hC.kept g (λe=>absurd (N8 hC.ty (C_ e▸I_ hR)) U5) (hm hC.tx) (hm hC.rc) (hm hC.pc),hr.len,λi d=>iO (hr.recs i d) hR _ _,λk v e=>(hr.grp k v e).kept g ?_,hr.non,hr.apart,hr.pln⟩
 cases hq:v.ownBlock with
 | none=>exact .inl rfl
 | some q=>
  refine .inr (λf=>?_);obtain⟨_,_,cur,hc⟩:=Gh (hr.grp k v e) hq;obtain rfl:=C_ f;exact absurd (N8 ⟨_,_,hc⟩ (I_ hR)) U5
theorem Sh.below'(h:Sh B H bT bR bP W l rs rv w)(a:Bw w w'):Sh B H bT bR bP W l rs rv w':=by
 obtain⟨pl,hC,hr⟩:=h;exact⟨pl,hC.below a,hr.below a⟩
end
structure oJ(b0 R:Nat)(m:MS)(fa:OA)(fc H B bT bR bP:Nat)(rv:List Value)(u:World):Prop where
 ok:MOk m
 cr:Cl u R 241 [Sc Se m.ep,Sa fa m.fs.length fc,Sd (some ⟨H,0,none⟩)]
 nf:T.Wn b0 u fa m.fs
 sh:Sh B H bT bR bP m.s.wd (m.s.ts.map (gT m.s.wd)) m.s.rs rv u
 hB:b0<=B
 hR:b0<=R
def ImM(b0 R:Nat)(m:MS)(u:World):Prop:=∃fa fc H B bT bR bP rv,oJ b0 R m fa fc H B bT bR bP rv u
theorem oJ.below{b0 R fc H B bT bR bP:Nat}{m:MS}{fa:OA}{rv:List Value}{u u':World}(h:oJ b0 R m fa fc H B bT bR bP rv u)(a:Bw u u'):oJ b0 R m fa fc H B bT bR bP rv u':=
 ⟨h.ok,h.cr.below a h.cr.lt,eu h.nf a.size (λq b=>a.block q (Ld b)) A8,h.sh.below' a,h.hB,h.hR⟩
def a1d(w:World)(b0 R:Nat)(m:MS)(x:z_)(e:Ending)(w':World):Prop:=e=.returned (.bool (dn m x).isSome)/\(∀m',dn m x=some m'->ImM b0 R m' w')
end Go.Proofs.YtdgneicbmalnpaaGreatDoor
namespace Go.Proofs.YtdgneicbmalnpaaGreatDoor
open Proofs.Tryz Go.RowKit
theorem XK{u:World}{a:OA}{m c:Nat}:Src u (Sa a 0 c) m 0 []:=by
 cases a with
 | none=>exact .inl ⟨⟨c,rfl⟩,rfl,rfl⟩
 | some p=>exact .inr ⟨p,c,rfl,by simp,λj u e=>by simp at e⟩
def cE{α:Type}(E:α×Value->List Value)(d:α)(is:List α)(vs:List Value):List Value:=(List.range is.length).flatMap λi=>E (is.getD i d,vs.getD i undef)
section
variable{α β:Type}{E:α×Value->List Value}{d:α}{is:List α}{vs vs0:List Value}{m j k q n mi N:Nat}{v:Value}{inn:α->List β}{f:β->List Value}{T TI:TypeId}{w u:World}
theorem xA(a:∀p,(E p).length=m):(cE E d is vs).length=is.length*m:=by
 unfold cE;rw[Hg (λ_=>a _),List.length_range]
theorem Xj(b:∀p,(E p).length=m)(a:q<is.length)(c:j<m):(cE E d is vs)[q*m+j]?=(E (is.getD q d,vs.getD q undef))[j]?:=by
 have hl:j<(E (is.getD q d,vs.getD q undef)).length:=by rw[b];exact c
 rw[V8 hl];refine Gf (d:=0) (f:=λi=>E (is.getD i d,vs.getD i undef)) (λ_=>b _) (List.range is.length) q (by simpa using a) j _ ?_;rw[show(List.range is.length).getD q 0=q from by simp[List.getD,a]];exact V8 hl
theorem a0B(c:∀p,(E p).length=m)(hs:∀x a b,(E (x,a)).set j b=E (x,b))(hj:j<m)(hk:k<is.length)(hl:vs.length=is.length):(cE E d is vs).set (k*m+j) v=cE E d is (vs.set k v):=by
 have o:=P9 (show k*m+j<(k+1)*m by rw[ak];omega) (Ro _ hk);apply List.ext_getElem?;intro p;rcases Z7 p (is.length*m)with g|g;rotate_left
 ·rw[Eb (by rw[Qi,xA c];exact g),Eb (by rw[xA c];exact g)]
 have hm:0<m:=by omega
 obtain⟨q,r,hr,rfl⟩:∃q r,r<m/\p=q*m+r:=⟨p/m,p % m,MF _ hm,by rw[UE];exact(EK p m).symm⟩;have f:q<is.length:=by
  rcases Z7 q is.length with h|h
  ·exact h
  have:=Ro m h;omega
 rw[Xj c f hr];by_cases l:q=k
 ·subst l;rw[show(vs.set q v).getD q undef=v from by simp[List.getD,show q<vs.length by omega]];rw[<- hs _ (vs.getD q undef) v];by_cases i:r=j
  ·subst i;rw[Xk (by rw[xA c];exact o),Xk (by rw[c];exact hr)]
  rw[w_ (by omega),w_ (Xn i),Xj c f hr]
 have n:k*m+j≠q*m+r:=λe=>by
  rcases Z7 q k with h|h
  ·have:=Ro m h;rw[ak]at this;omega
  have:=Ro m (show k+1<=q by omega);rw[ak]at this;omega
 rw[w_ n,Xj c f hr,show(vs.set k v).getD q undef=vs.getD q undef from by simp[List.getD,w_ (Xn l)]]
theorem TQ(h1:∀x a n c,∀u∈E (x,Sa a n c),u.oneCell'=true)(h:∀i,i<is.length->∃a n c,vs.getD i undef=Sa a n c):∀u∈cE E d is vs,u.oneCell'=true:=by
 intro u b;unfold cE at b;obtain⟨i,f,hm⟩:=Ox.1 b;obtain⟨a,n,c,e⟩:=h i (Yp.1 f);rw[e]at hm;exact h1 _ _ _ _ u hm
theorem zQ{a:OA}{LS:World->OA->List β->Prop}(c:Nat)(n:∀p,(E p).length=m)(hm:0<m)(B:∀p,(E p)[j]?=some p.2)(h:iy w a is d m λw b o x=>∃f g,Bc w b o (E (x,.slice f (inn x).length g))/\LS w f (inn x)):∃vs,vs.length=is.length/\(∀u,Bw w u->Src u (Sa a is.length c) m is.length (cE E d is vs))/\∀i,i<is.length->∃f g,vs.getD i undef=.slice f (inn (is.getD i d)).length g/\LS w f (inn (is.getD i d)):=by
 rcases h with rfl|⟨b,off,rfl,C,h⟩
 ·exact⟨[],rfl,λu _=>XK,λi l=>absurd l (U8 _)⟩
 obtain⟨vs,t⟩:∃vs,vs=(List.range is.length).map λi=>(w.cell? (aA b (off+i*m+j))).getD undef:=⟨_,rfl⟩;have y:∀i,i<is.length->∃f g,vs.getD i undef=vL f (inn (is.getD i d)).length g/\LS w f (inn (is.getD i d))/\Bc w b (off+i*m) (E (is.getD i d,vs.getD i undef)):=λi l=>by
  obtain⟨f,g,s,z⟩:=h i l;have e0:=s j _ (B _);have e:vs.getD i undef=vL f (inn (is.getD i d)).length g:=by rw[t];simp[List.getD,l]at e0 ⊢;rw[e0];rfl
  exact⟨f,g,e,z,by rw[e];exact s⟩
 refine⟨vs,by rw[t];simp,λu A=>.inr ⟨_,c,rfl,xA n,λp x hx=>?_⟩,λi l=>by obtain⟨f,g,e,k,_⟩:=y i l;exact⟨f,g,e,k⟩⟩;have hp:p<is.length*m:=by have:=(ah.1 hx).1;rwa[xA n]at this
 obtain⟨q,r,hr,rfl⟩:∃q r,r<m/\p=q*m+r:=⟨p/m,p % m,MF _ hm,by rw[UE];exact(EK p m).symm⟩;have v:q<is.length:=by
  rcases Z7 q is.length with h|h
  ·exact h
  have:=Ro m h;omega
 obtain⟨_,_,_,_,k⟩:=y q v;rw[Xj n v hr]at hx;rw[qo,A.cell (by exact C),<- Qw];exact k r x hx
structure Az(E:α×Value->List Value)(d:α)(inn:α->List β)(f:β->List Value)(T m TI mi:Nat)(N:Nat)(is:List α)(vs0:List Value)(v:Value)(k:Nat)(vs:List Value)(w:World):Prop where
 len:vs.length=is.length
 row:w.ownsRow N T m v is.length (cE E d is vs)
 gl:∀i,i<k->∃a c,vs.getD i undef=.slice a (inn (is.getD i d)).length c/\w.ownsRow N TI mi (.slice a (inn (is.getD i d)).length c) (inn (is.getD i d)).length ((inn (is.getD i d)).flatMap f)
 old:∀i,k<=i->vs.getD i undef=vs0.getD i undef
 apart:∀i j,i<k->j<k->i≠j->(vs.getD i undef).ownBlock=none\/(vs.getD i undef).ownBlock≠(vs.getD j undef).ownBlock
theorem Az.keep(h:Az E d inn f T m TI mi N is vs0 v k vs w)(hk:∀q t,oh w q t->t=T\/t=TI->N<=q->u.heap[q]?=w.heap[q]?):Az E d inn f T m TI mi N is vs0 v k vs u:=⟨h.len,Z4 h.row (λq b=>hk q T (X6 h.row b) (.inl rfl) (X4 h.row b)),λi g=>by obtain⟨a,c,e,o⟩:=h.gl i g;exact⟨a,c,e,Z4 o (λq b=>hk q TI (X6 o b) (.inr rfl) (X4 o b))⟩,h.old,h.apart⟩
theorem Az.next{g c l:Nat}{a:OA}(h:Az E d inn f T m TI mi N is vs0 (Sa (some ⟨g,0,none⟩) is.length c) k vs w)(I:∀p,(E p).length=m)(hs:∀x a b,(E (x,a)).set j b=E (x,b))(A:j<m)(hT:TI≠T)(hk:k<is.length)(B:Bw w u)(ho:u.ownsRow w.heap.size TI mi (.slice a (inn (is.getD k d)).length l) (inn (is.getD k d)).length ((inn (is.getD k d)).flatMap f)):
 Az E d inn f T m TI mi N is vs0 (Sa (some ⟨g,0,none⟩) is.length c) (k+1) (vs.set k (.slice a (inn (is.getD k d)).length l)) (u.setCell ⟨g,k*m+j,none⟩ (.slice a (inn (is.getD k d)).length l)):=by
 have hgl:g<w.heap.size:=o_ h.row rfl;have H:N<=w.heap.size:=by have:=X4 h.row (k:=g) rfl;omega
 have hR:=own_below h.row B;have hw:=u_ u g (k*m+j) (vL a (inn (is.getD k d)).length l);have D:k<vs.length:=by rw[h.len];exact hk
 have gs:∀i,i≠k->(vs.set k (vL a (inn (is.getD k d)).length l)).getD i undef=vs.getD i undef:=λi s=>by simp[List.getD,w_ (Xn s)]
 have gk:(vs.set k (vL a (inn (is.getD k d)).length l)).getD k undef=vL a (inn (is.getD k d)).length l:=by simp[List.getD,D]
 have v:∀{n:Nat}{xs:List Value}{y:Value}{M:Nat},u.ownsRow M TI mi y n xs->(u.setCell (aA g (k*m+j)) (vL a (inn (is.getD k d)).length l)).ownsRow M TI mi y n xs:=λo=>Z4 o (λq r=>hw.block q (λe=>by
  subst e;exact hT (N8 (X6 o r) (X6 hR rfl))))
 refine⟨by rw[Qi];exact h.len,?_,λi s=>?_,λi s=>?_,λi j s A F=>?_⟩
 ·have o:=(hR.stored (k*m+j) (vL a (inn (is.getD k d)).length l)).1;rw[a0B I hs A hk h.len]at o;exact o
 ·by_cases t:i=k
  ·subst t;exact⟨a,l,gk,I7 (v ho) H⟩
  obtain⟨a1,C,e,o⟩:=h.gl i O0;exact⟨a1,C,(gs i t).trans e,v (own_below o B)⟩
 ·rw[gs i O0];exact h.old i O0
 have fr:∀i,i<k->∀q,(vs.getD i undef).ownBlock=some q->q<w.heap.size:=λi s q r=>by
  obtain⟨a1,C,e,o⟩:=h.gl i s;rw[e]at r;exact o_ o r
 by_cases t:i=k
 ·subst t;rw[gk,gs j O0]
  cases r:(Value.slice a (inn (is.getD i d)).length l).ownBlock with
  | none=>exact .inl rfl
  | some q=>exact .inr λe=>by have:=fr j O0 q e.symm;have:=X4 ho r;omega
 rw[gs i t];by_cases z:j=k
 ·subst z;rw[gk]
  cases r:(vs.getD i undef).ownBlock with
  | none=>exact .inl rfl
  | some q=>exact .inr λe=>by have:=fr i O0 q r;have:=X4 ho e.symm;omega
 rw[gs j z];exact h.apart i j O0 O0 F
end
theorem nZ{w:World}{a:OA}{rs:List R3}(h:ug w a rs):iy w a rs d_ 3 λw b o x=>∃c d,Bc w b o (NJ (x,Sa c x.gs.length d))/\R_ w c x.gs:=h.imp id λ⟨b,off,h1,h2,m⟩=>⟨b,off,h1,h2,λi l=>by
 obtain⟨c,d,k,j,g,f⟩:=m i l;refine⟨c,d,λq v e=>?_,f⟩;rcases q with _|_|_|q
 ·cases e;exact k
 ·cases e;exact j
 ·cases e;exact g
 cases e⟩
