import Derived.Test.YtkccjgajimjjdaaGreatDoorzD
import Derived.Test.YtkccjgajimjjdaaGreatDoorwE
set_option maxHeartbeats 8000000
set_option maxRecDepth 100000
set_option linter.unusedVariables false
namespace Go.Proofs.YtkccjgajimjjdaaGreatDoor
open Proofs.Tryz Go.RowKit
section
variable{b0 R fc H B bT bR bP:Nat}{m:MS}{fa:OA}{rv:List Value}{u:World}
theorem rJ.ep(h:rJ b0 R m fa fc H B bT bR bP rv u)(n:Int)(h0:0<=n/\n<=200):rJ b0 R ⟨n,m.fs,m.s⟩ fa fc H B bT bR bP rv (u.setCell ⟨R,0,none⟩ (.int .i64 n)):=
 have o:=O_ u R 0 (vI n)
 ⟨⟨h0.1,h0.2,h.ok.fl,h.ok.fz,h.ok.st⟩,h.cr.set 0 _,Gq h.nf (uh o.size.symm) (λq a=>o.block q (λe=>absurd (Z8 a (e▸K_ h.cr)) Z5)) X7,h.sh.a0J h.cr 0 _,h.hB,h.hR⟩
theorem rJ.fs{a:OA}{b c:Nat}{gs:List T.F2}(h:rJ b0 R m fa fc H B bT bR bP rv u)(f:T.qo c u a gs)(g:b0<=c)(hl:gs.length<=40)(hz:∀i,(gs.getD i T.G9).le 4000):rJ b0 R ⟨m.ep,gs,m.s⟩ a b H B bT bR bP rv (u.setCell ⟨R,1,none⟩ (.slice a gs.length b)):=
 have o:=O_ u R 1 (vL a gs.length b)
 ⟨⟨h.ok.e0,h.ok.e1,hl,hz,h.ok.st⟩,h.cr.set 1 _,Gq f (uh o.size.symm) (λq d=>o.block q (λe=>absurd (Z8 d (e▸K_ h.cr)) Z5)) g,h.sh.a0J h.cr 1 _,h.hB,h.hR⟩
theorem rJ.ts{a B' c d f:Nat}{b:List Value}{s':St}(h:rJ b0 R m fa fc H B bT bR bP rv u)(g:Sh B' a c d f s'.wd (s'.ts.map (gT s'.wd)) s'.rs b u)(k:b0<=B')(j:Bh s'):rJ b0 R ⟨m.ep,m.fs,s'⟩ fa fc a B' c d f b (u.setCell ⟨R,2,none⟩ (.pointer (some ⟨a,0,none⟩))):=
 have o:=O_ u R 2 (.pointer (some (aA a 0)))
 ⟨⟨h.ok.e0,h.ok.e1,h.ok.fl,h.ok.fz,j⟩,h.cr.set 2 _,Gq h.nf (uh o.size.symm) (λq i=>o.block q (λe=>absurd (Z8 i (e▸K_ h.cr)) Z5)) X7,g.a0J h.cr 2 _,k,h.hR⟩
end
theorem c141(b0 R:Nat)(m:MS)(x:z_)(v:OA)(N:Nat)(w:World)(hM:ImM b0 R m w)(Y:b0<=w.heap.size)(hmx:Jc w)(hx:N9 x)(hxl:x.le 1048576)(hlk:S9 w v x.ls):
 Calls prog 141 #[.pointer (some ⟨R,0,none⟩),dX x v N] w λe w'=>a1c w b0 R m x e w'/\Below b0 w w':=by
 obtain⟨fa,fc,H,B,bT,bR,bP,rv,p⟩:=hM;have I:=U0 p;have HLK:=U0 hlk;have e0:=p.ok.e0;have e1:=p.ok.e1;have W:=p.cr.cell 0;have V:=p.cr.cell 1;have O:=p.cr.cell 2;have E:=p.cr.opn;have hR:=p.hR;have hRl:=p.cr.lt;simp only[gz]at W V O;clear p hlk;rcases hx with⟨n,hn,rfl⟩|⟨a,b,h,rfl⟩|⟨a,h,rfl⟩|⟨km,ls,c,t,h,rfl⟩|rfl
 ·have h0:=yX;show Calls prog 141 #[_,.iface 140 (.int .i64 n)] w _;have f0:=E 0;clear E
  go_in
  by_cases hne:n=m.ep+1;rotate_left
  ·have d:Hid (dn m (J9 n)=none):=by show _=_;exact VZ.trans (Y7 hne)
   go_wp2;go_ret;exact⟨⟨by rw[d.out];rfl,λm' c=>by rw[d.out]at c;cases c⟩,G5 _ _⟩
  obtain rfl:=hne;have d:Hid (dn m (J9 (m.ep+1))=some ⟨m.ep+1,m.fs,m.s⟩):=by show _=_;exact VZ.trans (L8 rfl)
  have l:=U0 (I.out.ep (m.ep+1) ⟨O0,hn.2⟩);go_wp2;go_ret;exact⟨⟨by rw[d.out];rfl,λm' c=>by rw[d.out]at c;cases c;exact⟨_,_,_,_,_,_,_,_,l.out⟩⟩,(G5 _ _).setCell hR _⟩
 ·have h0:=JX;have h1:=DY;clear E;show Calls prog 141 #[_,.iface 247 (.agg #[.string a,.string b])] w _;have HX4:Hid ((⟨a,b⟩:T.F2).le 1048576):=⟨by have:=WT h.1;show a.size<=1048576;omega,by show b.size<=1048576;omega⟩;have HFZ:Hid (∀i,(m.fs.getD i T.G9).le 1048576):=λi=>⟨I8 (I.out.ok.fz i).1 Z5,I8 (I.out.ok.fz i).2 Z5⟩
  go_in
  go_upto_region 10 with fail
  obtain⟨y,g⟩:∃q:World,q=w.alloc (.cells #[vS a,vS b] 247):=⟨_,rfl⟩;have f:Bw w y:=by rw[g];exact Y6
  have o:Hid (Cl y w.heap.size 247 [vS a,vS b]):=by show Cl _ _ _ _;rw[g];exact X4 w [_,_] 247
  rw[<- g];have j:Bw y y.drew:=(G5 _ _).drew;have z:=U0 ((I.out.below f).below j);have CD:=U0 (o.out.below j o.out.lt);clear g W V O;refine wp_region_held_drew (S:=λu=>u.cell? (aW w 0)=some (vS a)/\u.cell? (aW w 1)=some (vS b)) Y1 ⟨CD.out.cell 0,CD.out.cell 1⟩ λhH=>?_;refine p_ 0 ?_;refine p_ 1 ?_;refine p_ 2 ?_;refine p_ 3 ?_;refine p_ 5 ?_;have L:=z.out.cr.cell 1;simp only[gz]at L;refine rq 4 λK k=>?_;go_simp;refine A8 k hH λhH=>?_;clear k K L;refine rq 6 λK k=>?_;go_simp;refine(T.a4g fa fc m.fs ⟨a,b⟩ y.drew (by have:=I.out.ok.fl;omega) HFZ.out HX4.out z.out.nf.1).mono ?_;rintro e w1⟨⟨Q,P,cd,gs,rfl,X,r⟩,J⟩;have A:=U0 (z.out.below J);have C1:=U0 (CD.out.below J CD.out.lt);have HNF:=U0 X;have B1:=U0 (((f.mono Y).trans (j.mono (by have:=f.size;omega))).trans (J.mono (by have:=f.size;have:=j.size;omega)));have C:Hid (dn m (Lc a b)=if cd=0 then some ⟨m.ep,gs,m.s⟩ else none):=by
   show _=_;by_cases hc:cd=0
   ·subst hc;rw[L8 rfl,MX,DT r];rfl
   rw[Y7 hc,MX,DU r hc];rfl
  have l:Hid (cd=0->rJ b0 R ⟨m.ep,gs,m.s⟩ Q P H B bT bR bP rv (w1.setCell (aA R 1) (vL Q gs.length P))):=λhc=>by
   subst hc;have F:=zC r I.out.ok.fz;exact A.out.fs HNF.out (by have:=f.size;have:=j.size;omega) F.1 F.2
  clear X J r hH;refine A8 k ⟨C1.out.cell 0,C1.out.cell 1⟩ λhH=>?_;clear k K;refine p_ 7 ?_;refine p_ 8 ?_;refine p_ 9 ?_;refine p_ 10 ?_;refine p_ 11 ?_;have L:=A.out.cr.cell 1;have q2:=A.out.cr.opn 1;simp only[gz]at L;refine rq 12 λK k=>?_;go_simp;have C2:=C1.out.on (O_ w1 R 1 (vL Q gs.length P)) (λe=>absurd (Z8 (K_ C1.out) (e▸K_ A.out.cr)) Z5);clear hH;refine A8 k ⟨C2.cell 0,C2.cell 1⟩ λhH=>?_;clear k K L q2 C2;refine sq ?_;refine wdn ?_;clear hH C1 CD o A;by_cases hc:cd=0
  ·subst hc;have d:=U0 (C.out.trans (L8 rfl));clear C;go_wp2;go_ret;exact⟨⟨by rw[d.out];rfl,λm' c=>by rw[d.out]at c;cases c;exact⟨_,_,_,_,_,_,_,_,l.out E5⟩⟩,B1.out.setCell hR _⟩
  have hc':(cd==0)=false:=by simpa using hc
  have d:=U0 (C.out.trans (Y7 hc));clear C l;go_wp2;go_ret;exact⟨⟨by rw[d.out];rfl,λm' c=>by rw[d.out]at c;cases c⟩,B1.out.setCell hR _⟩
 ·have h0:=sV;have h1:=kW;have h2:=jW;have f1:=E 1;clear E;show Calls prog 141 #[_,.iface 248 (.string a)] w _;have HFZ:Hid (∀i,(m.fs.getD i T.G9).le 1048576):=λi=>⟨I8 (I.out.ok.fz i).1 Z5,I8 (I.out.ok.fz i).2 Z5⟩
  go_in
  go_upto_region 13 with fail
  go_wp2_with fail
  refine(T.a3j fa fc m.fs a w (by have:=I.out.ok.fl;omega) HFZ.out I.out.nf.1).mono ?_;rintro e w1⟨⟨Q,P,cd,gs,rfl,X,r⟩,J⟩;have A:=U0 (I.out.below J);have HNF:=U0 X;have L:=A.out.cr.cell 1;have q2:=A.out.cr.opn 1;simp only[gz]at L;have B1:=U0 (J.mono Y);have C:Hid (dn m (Ec a)=if cd=0 then some ⟨m.ep,gs,m.s⟩ else none):=by
   show _=_;by_cases hc:cd=0
   ·subst hc;rw[L8 rfl,FY,qZ r];rfl
   rw[Y7 hc,FY,XY r hc];rfl
  have l:Hid (cd=0->rJ b0 R ⟨m.ep,gs,m.s⟩ Q P H B bT bR bP rv (w1.setCell (aA R 1) (vL Q gs.length P))):=λhc=>by
   subst hc;have F:=UB r I.out.ok.fz;exact A.out.fs HNF.out Y F.1 F.2
  clear X J r W V O f1;by_cases hc:cd=0
  ·subst hc;have d:=U0 (C.out.trans (L8 rfl));clear C;go_wp2;go_ret;exact⟨⟨by rw[d.out];rfl,λm' c=>by rw[d.out]at c;cases c;exact⟨_,_,_,_,_,_,_,_,l.out E5⟩⟩,B1.out.setCell hR _⟩
  have hc':(cd==0)=false:=by simpa using hc
  have d:=U0 (C.out.trans (Y7 hc));clear C l;go_wp2;go_ret;exact⟨⟨by rw[d.out];rfl,λm' c=>by rw[d.out]at c;cases c⟩,B1.out.setCell hR _⟩
 ·have h0:=DX;have h1:=EX;have h2:=OY;have h3:=zW;clear E;show Calls prog 141 #[_,.iface 250 (.agg #[.string km.nm,.string km.tl,.string km.ar,.slice v ls.length N,.int .i64 c,.string t])] w _;have HXL:=U0 hxl;have HLK:Hid (S9 w v ls):=HLK.out;have Z:=U0 (uz (m:=km) (ls:=ls) (c:=c) (t:=t) I.out.ok.st);have HSK:=U0 (DK (m:=km) (ls:=ls) (c:=c) (t:=t) I.out.ok.st);have HD4:Hid (dn m (Qg km ls c t)=_):=a1v;clear hxl
  go_in
  go_upto_region 16 with fail
  obtain⟨y,g⟩:∃q:World,q=w.alloc (.cells #[vS km.nm,vS km.tl,vS km.ar,vL v ls.length N,vI c,vS t] 250):=⟨_,rfl⟩;have f:Bw w y:=by rw[g];exact Y6
  have o:Hid (Cl y w.heap.size 250 [vS km.nm,vS km.tl,vS km.ar,vL v ls.length N,vI c,vS t]):=by show Cl _ _ _ _;rw[g];exact X4 w [_,_,_,_,_,_] 250
  rw[<- g];have U:=U0 (I.out.below f);clear g W V O;have HS:Hid (∀u,Bw y u->u.cell? (aA R 2)=some (.pointer (some (aA H 0)))/\u.cell? (aW w 0)=some (vS km.nm)/\u.cell? (aW w 1)=some (vS km.tl)/\u.cell? (aW w 2)=some (vS km.ar)/\u.cell? (aW w 3)=some (vL v ls.length N)/\u.cell? (aW w 4)=some (vI c)/\u.cell? (aW w 5)=some (vS t)):=λu hu=>by
   have h1:=U.out.cr.below hu U.out.cr.lt;have h2:=o.out.below hu o.out.lt;exact⟨h1.cell 2,h2.cell 0,h2.cell 1,h2.cell 2,h2.cell 3,h2.cell 4,h2.cell 5⟩
  have j:Bw y y.drew:=(G5 _ _).drew;refine FI HS j Y1 λhH=>?_
  iterate 10 refine sq ?_
  have z:=U0 (U.out.below j);have LD:=U0 (U7 (U7 HLK.out f) j);have hgs:∀i,(m.s.rs.getD i h_).gs.length<=1048576:=λi=>I8 (uK I.out.ok.st i) Z5;have HC:=U0 (a3D B H bT bR bP m.s.wd m.s.ts m.s.rs rv km ls c t v N y.drew z.out.sh I.out.ok.st.1 (Hr I.out.ok.st) I.out.ok.st.2.1.1 I.out.ok.st.2.2.1 hgs HXL.out.2.2.1 HXL.out.2.2.2.1.1 HXL.out.2.2.2.1.2 HXL.out.2.2.2.2 LD.out);clear hgs;refine rq 10 λK k=>?_;go_simp;refine HC.out.mono ?_;rintro e w1⟨⟨rfl,hKS⟩,hbB,hKF⟩;have BD:=U0 (((f.mono Y).trans (j.mono (by have:=f.size;omega))).trans (hbB.mono I.out.hB));have CR1:Hid (Cl w1 R 190 [vI m.ep,vL fa m.fs.length fc,.pointer (some (aA H 0))]):=(hKF R 190 (K_ z.out.cr) Z5).trans z.out.cr;have D:=(hKF w.heap.size 250 (K_ (o.out.below j o.out.lt)) Z5).trans (o.out.below j o.out.lt);have D:Cl w1 w.heap.size 250 [vS km.nm,vS km.tl,vS km.ar,vL v ls.length N,vI c,vS t]:=D;have NF1:=U0 (Gq z.out.nf hbB.size (λq hq=>hKF q 67 hq Z5) (J8 b0));have HKS:=U0 hKS;have hH1:=CR1.out.cell 2;clear HC hKS hKF hbB hH;refine A8 k ⟨hH1,D.cell 0,D.cell 1,D.cell 2,D.cell 3,D.cell 4,D.cell 5⟩ λhH=>?_;clear k K hH1 D;refine sq ?_;refine wdn ?_;clear hH HS o U z LD;obtain⟨cd,hcd⟩:∃cd,cd=x_ m.s.wd m.s.ts m.s.rs km ls c t:=⟨_,rfl⟩;rw[<- hcd]at Z HSK HKS ⊢;clear hcd;by_cases hc:cd=0
  ·subst hc;have d:Hid (dn m (Qg km ls c t)=some ⟨m.ep,m.fs,⟨m.s.wd,(P8 m.s.wd (Pm ls c t) (m.s.ts,true)).1,Vg m.s.rs (Ri m.s.wd km ls c t)⟩⟩):=by
    have h:=HD4.out;rw[Z.out.1 rfl]at h;exact h.trans (L8 rfl)
   obtain⟨rv1,hs1⟩:=HKS.out rfl;have IF:Hid (ImM b0 R ⟨m.ep,m.fs,⟨m.s.wd,(P8 m.s.wd (Pm ls c t) (m.s.ts,true)).1,Vg m.s.rs (Ri m.s.wd km ls c t)⟩⟩ w1):=⟨_,_,_,_,_,_,_,_,⟨⟨e0,e1,I.out.ok.fl,I.out.ok.fz,HSK.out rfl⟩,CR1.out,NF1.out,hs1,I.out.hB,hR⟩⟩;clear hs1 HKS Z HSK HD4;go_wp2;go_ret;exact⟨⟨by rw[d.out];rfl,λm' c=>by rw[d.out]at c;cases c;exact IF.out⟩,BD.out⟩
  have hc':(cd==0)=false:=by simpa using hc
  have d:Hid (dn m (Qg km ls c t)=none):=by
   have h:=HD4.out;rw[Z.out.2 hc]at h;exact h.trans (Y7 hc)
  clear HKS Z HSK HD4;go_wp2;go_ret;exact⟨⟨by rw[d.out];rfl,λm' c=>by rw[d.out]at c;cases c⟩,BD.out⟩
 have h0:=qY;have h1:=nV;have h2:=FX;have h3:=AX;have h4:=KX;have f2:=E 2;clear E;show Calls prog 141 #[_,.iface 253 (.agg #[])] w _;have d:Hid (dn m Va=_):=a2Q;obtain⟨pl,hC,_⟩:=I.out.sh;have hw0:=hC.blk 0 _ rfl;have hHl:=hC.lt;clear hC
 go_in
 go_upto_region 19 with fail
 obtain⟨y,g⟩:∃q:World,q=w.alloc (.cells #[] 253):=⟨_,rfl⟩;have f:Bw w y:=by rw[g];exact Y6
 rw[<- g];have q2:=(f.cell (by exact hRl)).trans O;have q0:=(f.cell (by exact hHl)).trans hw0;have U:=U0 (I.out.below f);have hys:=f.size;clear g W V O f2 hw0
 go_wp2_with fail
 refine(c139 ⟨m.s.wd,[],[]⟩ none none 0 0 y (Gt I.out.ok.st.1) (BL (Gt I.out.ok.st.1)) ⟨.inl rfl,.inl rfl⟩ (Q9 hmx f)).mono ?_;rintro e w2⟨⟨H',bT',bR',bP',rv',rfl,F⟩,hb2⟩;have l:=U0 (U.out.below hb2);have I3:=U0 (l.out.ts (s':=⟨m.s.wd,[],[]⟩) F O0 (Gt I.out.ok.st.1));have p2:=l.out.cr.cell 2;have pf:=l.out.cr.opn 2;simp only[gz]at p2;have B2:=U0 ((f.mono Y).trans (hb2.mono O0));clear F hb2 q2 q0;go_wp2;go_ret;exact⟨⟨by rw[d.out];rfl,λm' c=>by rw[d.out]at c;cases c;exact⟨_,_,_,_,_,_,_,_,I3.out⟩⟩,B2.out.setCell hR _⟩
end Go.Proofs.YtkccjgajimjjdaaGreatDoor
namespace Go.Proofs.YtkccjgajimjjdaaGreatDoor
open Proofs.Tryz Go.RowKit
variable{w w':World}{b:Nat}{m:MS}{vs:List Value}{es:LB}{W cd:Int}
def MeO(w:World)(b:Nat)(m:MS)(vs:List Value):Prop:=MOk m/\∃fa fc ta tc ra rc,vs=[.int .i64 0,.int .i64 m.ep,.slice fa m.fs.length fc,.int .i64 m.s.wd,.slice ta m.s.ts.length tc,.slice ra m.s.rs.length rc]/\T.qo b w fa m.fs/\Z_ w b m.s.ts m.s.rs (.slice ta m.s.ts.length tc) (.slice ra m.s.rs.length rc)
def Rp7(w:World)(es:LB)(W:Int)(e:Ending)(w':World):Prop:=∃vs,e=.returned (.agg vs.toArray)/\((¬qy es W/\vs=[.int .i64 1,.int .i64 0,.slice none 0 0,.int .i64 0,.slice none 0 0,.slice none 0 0])\/(qy es W/\∃o,NG RE es (mZ W) o/\((o=none/\vs=[.int .i64 2,.int .i64 0,.slice none 0 0,.int .i64 0,.slice none 0 0,.slice none 0 0])\/∃m,o=some m/\MeO w' w.heap.size m vs)))
theorem MeO.keep{b':Nat}(h:MeO w b m vs)(d:w.heap.size<=w'.heap.size)(a:∀q t,Ah w q t->t≠62->w'.heap[q]?=w.heap[q]?)(c:b'<=b):MeO w' b' m vs:=by
 obtain⟨h0,fa,fc,ta,tc,ra,rc,h1,h2,f⟩:=h;exact⟨h0,fa,fc,ta,tc,ra,rc,h1,Gq h2 d (λq e=>a q 67 e Z5) c,Be (Jt f (λq t hT ht=>a q t hT (by rcases ht with rfl|rfl|rfl<;>decide))) c⟩
theorem uT{u z:World}{a:Array Value}(hc:Cl u w.heap.size 62 [.int .i64 0,.int .i64 0,.slice none 0 0,.int .i64 0,.slice none 0 0,.slice none 0 0])(g:Cl z w.heap.size 62 vs)(b:Jr w.heap.size u z)(d:Bw w u)(hl:vs.length=6)(c:a.getD 4 undef=.pointer (some ⟨w.heap.size,0,none⟩))(f:∀z:World,u.heap.size<=z.heap.size->(∀q t,Ah u q t->t≠62->z.heap[q]?=u.heap[q]?)->Rp7 w es W (.returned (.agg vs.toArray)) z):bodyPost prog f84 (λe w'=>Rp7 w es W e w'/\Bw w w') .ret ⟨a,[]⟩ z:=
 Q7 (v:=.agg vs.toArray) (J7 (P:=prog) (ty:=62) rfl a z w.heap.size vs _ c g.blk underlying62 rfl (by rw[hl];kernel_rfl)) rfl ⟨f z (uh b.size.symm) (λq t hT ht=>b.block q (λe=>ht (Z8 (e▸hT) (K_ hc)))),d.trans (b.below X7)⟩
theorem c84(a:OA)(cap:Nat)(es:LB)(W:Int)(w:World)(hl:es.length<=1048576)(hs:∀i,(es.getD i ByteArray.empty).size<=1048576)(hat:Z7 w a es)(hmx:Jc w):
 Calls prog 84 #[.slice a es.length cap,.int .i64 W] w λe w'=>Rp7 w es W e w'/\Bw w w':=by
 have HAT:=U0 hat;have HSZ:=U0 hs;have HMX:=U0 hmx;clear hat hs hmx
 go_in
 go_upto_region 1 with fail
 obtain⟨V,hV⟩:∃V:World,V=w.alloc (.cells #[vO,vO,vN,vO,vN,vN] 62):=⟨_,rfl⟩;rw[<- hV];have N:Bw w V:=by rw[hV];exact Y6
 have q:Hid (Cl V w.heap.size 62 [vO,vO,vN,vO,vN,vN]):=by show Cl _ _ _ _;rw[hV];exact X4 w [vO,vO,vN,vO,vN,vN] 62
 have hz:V.heap.size=w.heap.size+1:=by rw[hV];simp
 have HZ:=U0 hz;clear hV hz;have A:Hid (∀v∈([vI 1,vO,vN,vO,vN,vN]:List Value),v.oneCell'=true):=je rfl rfl rfl rfl rfl rfl;by_cases hw:1<=W/\W<=8;rotate_left
 ·have HBD:Hid (¬qy es W):=λh=>hw h.1;have hd:=o_ hw
  go_wp2_with fail
  refine(c138 W V).mono ?_;rintro e V1⟨rfl,X⟩;obtain rfl:=X.symm;rw[hd]
  go_wp2_with(refine I7 rfl 62 _ _ rfl (j:=0) rfl rfl q.out X7 A.out Y1 ?_;intro z g d)
  exact uT q g d N rfl rfl (λz _ _=>⟨_,rfl,.inl ⟨HBD,rfl⟩⟩)
 have hd:=X_ hw
 go_wp2_with fail
 refine(c138 W V).mono ?_;rintro e V1⟨rfl,X⟩;obtain rfl:=X.symm;rw[hd];by_cases hbig:1000<es.length
 ·have HBD:Hid (¬qy es W):=λh=>by have:=h.2;omega
  have c:(1000:Int)<es.length:=O0
  go_wp2_with(refine I7 rfl 62 _ _ rfl (j:=0) rfl rfl q.out X7 A.out Y1 ?_;intro z g d)
  exact uT q g d N rfl rfl (λz _ _=>⟨_,rfl,.inl ⟨HBD,rfl⟩⟩)
 have c:¬(1000:Int)<es.length:=O0;have HIN:Hid (qy es W):=⟨hw,O0⟩
 go_upto_region 3 with fail
 go_wp2_with fail
 refine(c139 ⟨W,[],[]⟩ none none 0 0 V (Gt hw) (BL (Gt hw)) ⟨.inl rfl,.inl rfl⟩ (Q9 HMX N)).mono ?_;rintro e y⟨⟨H,bT,bR,bP,rv,rfl,hsh⟩,o⟩;have HSH:=U0 hsh;have b2:=J5 N o;have r:=U0 (q.out.below o q.out.lt);have hV2:w.heap.size+1<=y.heap.size:=by have:=o.size;have:=HZ.out;omega
 have HVB:=U0 (uh HZ.out.symm);clear hsh o q hd
 go_upto_region 4 with fail
 obtain⟨U,L⟩:∃U:World,U=y.alloc (.cells #[vO,vN,.pointer (some (aA H 0))] 190):=⟨_,rfl⟩;rw[<- L];have O:Bw y U:=by rw[L];exact Y6
 have HI:Hid (ImM (w.heap.size+1) y.heap.size (mZ W) U):=by
  refine⟨none,0,H,V.heap.size,bT,bR,bP,rv,a2z hw,?_,⟨.inl rfl,.inl rfl⟩,HSH.out.below' O,HVB,hV2⟩;rw[L];exact X4 y [_,_,_] 190
 have CU:=U0 (r.out.below O r.out.lt);have HB:=U0 (J5 b2 O);clear L O r b2 HSH c;generalize y.heap.size=R at*;go_wp2;go_loopw[25] (λi wr=>∃(k:Nat)(f:Nat->z_)(m:MS),i=.int .i64 k/\k<=es.length/\Hid (∀j,j<k->RE (eL es j) (f j) true)/\Hid (rn f (mZ W) k=some m)/\Hid (Below w.heap.size w wr)/\Hid (Cl wr w.heap.size 62 [.int .i64 0,.int .i64 0,.slice none 0 0,.int .i64 0,.slice none 0 0,.slice none 0 0])/\Hid (ImM (w.heap.size+1) R m wr)) (λi _=>es.length-(RowKit.intOf i).toNat);exact⟨0,λ_=>Dj,_,rfl,J4 _,λj h=>absurd h (y9 _),rfl,HB,CU,HI⟩;obtain⟨k,f,m,rfl,hk,E,D,I,F,P⟩:=hrel;clear HI CU HB;by_cases J:k<es.length;rotate_left
 ·obtain rfl:k=es.length:=O0;obtain⟨fa,fc,H1,t,bT1,bR1,bP1,rv1,C⟩:=P.out;have Y:Bw wr wr.drew:=(G5 _ _).drew;have n:=U0 (C.below Y);have CD:=U0 (F.out.below Y F.out.lt);have BD:=U0 (J5 I Y);clear C P
  go_upto_region 11 with fail
  refine wp_region_held_drew (S:=λu=>u.cell? (aA R 0)=some (vI m.ep)/\u.cell? (aA R 1)=some (vL fa m.fs.length fc)/\u.cell? (aA R 2)=some (.pointer (some (aA H1 0)))) Y1 ⟨n.out.cr.cell 0,n.out.cr.cell 1,n.out.cr.cell 2⟩ λhH=>?_
  iterate 6 refine sq ?_
  have a6R:=U0 (a4Z t H1 bT1 bR1 bP1 m.s.wd m.s.ts m.s.rs rv1 wr.drew n.out.sh n.out.ok.st.1 (I8 n.out.ok.st.2.1.1 Z5) (I8 n.out.ok.st.2.2.1 Z5) (λi=>I8 (uK n.out.ok.st i) Z5));refine rq 6 λK B=>?_;go_simp;refine a6R.out.mono ?_;rintro e w1⟨⟨ta,tc,ra,rc,rfl,hso⟩,c⟩;have l:=U0 (n.out.below c);have p:=U0 (CD.out.below c CD.out.lt);have B1w:=U0 (J5 BD c);have HSO:=U0 hso;clear a6R hso c hH;refine A8 B ⟨l.out.cr.cell 0,l.out.cr.cell 1,l.out.cr.cell 2⟩ λhH=>?_;clear B K;refine sq ?_;refine rq 8 λK B=>?_;refine t_ rfl 62 _ _ rfl (j:=0) rfl rfl p X7 (je rfl rfl rfl rfl rfl rfl) Y1 ?_;intro z g d;have CZ:=U0 g;have OZ:=U0 d;have hRR:R≠w.heap.size:=by have:=l.out.hR;omega
  have c3:=l.out.cr.on d hRR;clear hH g d;refine A8 B ⟨c3.cell 0,c3.cell 1,c3.cell 2⟩ λhH=>?_;clear B K c3;refine wdn ?_;clear hH
  go_wp2_with fail
  have HME:Hid (MeO w1 w.heap.size m [vO,vI m.ep,vL fa m.fs.length fc,vI m.s.wd,vL ta m.s.ts.length tc,vL ra m.s.rs.length rc]):=⟨l.out.ok,fa,fc,ta,tc,ra,rc,rfl,Gq l.out.nf X7 (λ_ _=>rfl) O0,Be HSO BD.out.size⟩;exact uT p CZ OZ B1w rfl rfl (λz hz1 hz2=>⟨_,rfl,.inr ⟨HIN,_,aV E D,.inr ⟨m,rfl,HME.out.keep hz1 hz2 X7⟩⟩⟩)
 obtain⟨b,off,hst⟩:=La (P6 HAT.out I.out);obtain⟨rfl,hbw,hce⟩:=Jd hst J;have hc0:=hce k J;clear hce;have HRD:=U0 (a5o (es.getD k ByteArray.empty) wr (HSZ k) (Q9 HMX I));have HEL:Hid ((es.getD k ByteArray.empty).data.toList=eL es k):=rfl;generalize es.getD k ByteArray.empty=s at*
 go_upto_region 7 with fail
 go_wp2_with fail
 refine HRD.out.mono ?_;rintro e w1⟨hx,c⟩;rw[HEL.out]at hx;obtain⟨fa,fc,H1,t,bT1,bR1,bP1,rv1,C⟩:=P.out;have l:=U0 (C.below c);have t:=U0 (J5 I c);have p:=U0 (F.out.below c F.out.lt);clear HRD C P hc0 F I c;rcases hx with⟨rfl,hz⟩|⟨x,ai,ci,rfl,hx,_,hxl,hlk⟩
 ·have HBAD:=U0 (hz Dj);have A:Hid (∀v∈([vI 2,vO,vN,vO,vN,vN]:List Value),v.oneCell'=true):=je rfl rfl rfl rfl rfl rfl;clear hz
  go_wp2_with(refine I7 rfl 62 _ _ rfl (j:=0) rfl rfl p.out X7 A.out Y1 ?_;intro z g d)
  exact uT p g d t rfl rfl (λz _ _=>⟨_,rfl,.inr ⟨HIN,_,vZ J E D HBAD,.inl ⟨rfl,rfl⟩⟩⟩)
 have Z:=U0 hx;have HCD:=U0 (c141 (w.heap.size+1) R m x ai ci w1 ⟨_,_,_,_,_,_,_,_,l⟩ (I8 (Nat.succ_le_of_lt p.out.lt) X7) (Q9 HMX t) (hx.1 rfl).1 hxl hlk.at');clear hx hxl hlk;generalize dX x ai ci=xv at*
 go_upto_region 8 with fail
 go_wp2_with fail
 refine HCD.out.mono ?_;rintro e w2⟨⟨rfl,hm2⟩,o⟩;have HM2:=U0 hm2;have r:=U0 (p.out.below o O0);have B2:=U0 (t.out.trans (o.mono O0));clear HCD hm2 o p t l
 cases hd:dn m x with
 | none=>
  have Q:=U0 hd;have A:Hid (∀v∈([vI 2,vO,vN,vO,vN,vN]:List Value),v.oneCell'=true):=je rfl rfl rfl rfl rfl rfl;clear hd HM2
  go_wp2_with(refine I7 rfl 62 _ _ rfl (j:=0) rfl rfl r.out X7 A.out Y1 ?_;intro z g d)
  exact uT r g d B2 rfl rfl (λz _ _=>⟨_,rfl,.inr ⟨HIN,_,iU J E D Z Q,.inl ⟨rfl,rfl⟩⟩⟩)
 | some m'=>
  have Q:=U0 hd;have HMM:=U0 (HM2.out m' hd);clear hd HM2;go_wp2;go_roundw;exact⟨k+1,upd f k x,m',by go_num,O0,(Ny E.out D.out Z.out Q.out).1,(Ny E.out D.out Z.out Q.out).2,B2,r,HMM⟩;exact Z9
structure Sml(m:MS):Prop where
 fl:m.fs.length<=40
 tl:m.s.ts.length<=300
 rl:m.s.rs.length<=150
 gl:∀i,(m.s.rs.getD i h_).gs.length<=1000
 gz:Sz m.s.rs<=150000
def Rd(w:World)(cd:Int)(m:MS)(vs:List Value):Prop:=∃fa fc ta tc ra rc,vs=[.int .i64 cd,.int .i64 m.ep,.slice fa m.fs.length fc,.int .i64 m.s.wd,.slice ta m.s.ts.length tc,.slice ra m.s.rs.length rc]/\T.G6 w fa m.fs/\Ef w ta ra m.s
def Me(w:World)(b:Nat)(cd:Int)(m:MS)(vs:List Value):Prop:=∃fa fc ta tc ra rc,vs=[.int .i64 cd,.int .i64 m.ep,.slice fa m.fs.length fc,.int .i64 m.s.wd,.slice ta m.s.ts.length tc,.slice ra m.s.rs.length rc]/\T.qo b w fa m.fs/\Z_ w b m.s.ts m.s.rs (.slice ta m.s.ts.length tc) (.slice ra m.s.rs.length rc)
def XO:MS:=⟨0,[],⟨0,[],[]⟩⟩
def Out(R:List UInt8->z_->Bool->Prop)(es:LB)(W:Int)(cd:Int)(m:MS):Prop:=Sml m/\((¬qy es W/\cd=1/\m=XO)\/(qy es W/\∃o,NG R es (mZ W) o/\((o=none/\cd=2/\m=XO)\/(o=some m/\cd=0))))
theorem jL{c:Int}{m':MS}(h:Out RES es W cd m)(a:Out RE es W c m'):c=cd/\m'=m:=by
 obtain⟨_,h⟩:=h;obtain⟨_,a⟩:=a;rcases h with⟨h1,rfl,rfl⟩|⟨h1,o,h2,e⟩
 ·rcases a with⟨_,rfl,rfl⟩|⟨k,_⟩
  ·exact⟨rfl,rfl⟩
  exact absurd k h1
 rcases a with⟨k,_⟩|⟨_,o',d,b⟩
 ·exact absurd h1 k
 have:=a0c h2 d;subst this;rcases e with⟨rfl,rfl,rfl⟩|⟨rfl,rfl⟩
 ·rcases b with⟨_,rfl,rfl⟩|⟨k,_⟩
  ·exact⟨rfl,rfl⟩
  cases k
 rcases b with⟨k,_⟩|⟨k,rfl⟩
 ·cases k
 exact⟨rfl,(I_ k).symm⟩
theorem a1l(rs:List R3)(h:∀x∈rs,x.gs.length<=1000):Sz rs<=rs.length*1000:=by
 induction rs with
 | nil=>decide
 | cons x r ih=>
  have:=ih (λy a=>h y (Og _ a));have hx:=h x (Vr ..);unfold Sz at this ⊢;simp only[Fp,List.sum_cons,u_];omega
theorem kF(h:MOk m):Sml m:=by
 have h1:=h.st.2.1.1;have h2:=h.st.2.2.1;have a:=uK h.st;refine⟨h.fl,h1,h2,a,I8 (a1l _ (λx hx=>?_)) O0⟩;obtain⟨i,b,rfl⟩:=Ze hx;have:=a i
 rwa[show m.s.rs.getD i h_=m.s.rs[i] from by simp[List.getD,b]]at this
theorem Yx:Sml XO:=⟨Z5,Z5,Z5,λi=>by show(0:Nat)<=1000;omega,Z5⟩
theorem vY(w:World)(b:Nat)(cd:Int):Me w b cd XO [.int .i64 cd,.int .i64 0,.slice none 0 0,.int .i64 0,.slice none 0 0,.slice none 0 0]:=⟨none,0,none,0,none,0,rfl,⟨.inl rfl,.inl rfl⟩,Kr _ _⟩
theorem Me.rd(h:Me w b cd m vs):Rd w cd m vs:=by
 obtain⟨fa,fc,ta,tc,ra,rc,h1,h2,a⟩:=h;exact⟨fa,fc,ta,tc,ra,rc,h1,h2.1,Ep a⟩
theorem Rd.below(h:Rd w cd m vs)(a:Bw w w'):Rd w' cd m vs:=by
 obtain⟨fa,fc,ta,tc,ra,rc,h1,h2,b⟩:=h;exact⟨fa,fc,ta,tc,ra,rc,h1,T.U5 h2 a,b.below a⟩
theorem Me.keep(h:Me w b cd m vs)(c:w.heap.size<=w'.heap.size)(d:∀q,b<=q->q<w.heap.size->w'.heap[q]?=w.heap[q]?):Me w' b cd m vs:=by
 obtain⟨fa,fc,ta,tc,ra,rc,h1,h2,a⟩:=h;refine⟨fa,fc,ta,tc,ra,rc,h1,?_,a.keep d⟩;obtain⟨hf,h⟩:=h2;rcases h with h0|⟨g,rfl,f,ho,ht⟩
 ·exact⟨.inl h0,.inl h0⟩
 have e:=d g f ho.1;refine⟨?_,.inr ⟨g,rfl,f,⟨U9 ho.1 c,λj k=>by rw[ng e];exact ho.2.1 j k,λj=>by rw[xE e];exact ho.2.2 j⟩,?_⟩⟩
 ·rcases hf with h0|⟨b,off,h1,h2,a⟩
  ·exact .inl h0
  injection h1 with h1;injection h1 with h1 h4;subst h1 h4;exact .inr ⟨g,0,rfl,U9 h2 c,λi l=>by rw[ng e,ng e];exact a i l⟩
 obtain⟨cur,hc⟩:=ht;exact⟨cur,e.trans hc⟩
theorem a5p(a:OA)(cap:Nat)(es:LB)(W:Int)(w:World)(hl:es.length<=1048576)(c:∀i,(es.getD i ByteArray.empty).size<=1048576)(g:Z7 w a es)(d:Jc w):
 Calls prog 84 #[.slice a es.length cap,.int .i64 W] w λe w'=>(∃cd m vs,e=.returned (.agg vs.toArray)/\Out RE es W cd m/\Me w' w.heap.size cd m vs)/\Bw w w':=by
 refine(c84 a cap es W w hl c g d).mono ?_;rintro e w'⟨⟨vs,rfl,h⟩,f⟩;refine⟨?_,f⟩;rcases h with⟨h1,rfl⟩|⟨h1,o,h2,b⟩
 ·exact⟨1,XO,_,rfl,⟨Yx,.inl ⟨h1,rfl,rfl⟩⟩,vY _ _ _⟩
 rcases b with⟨rfl,rfl⟩|⟨m,rfl,b⟩
 ·exact⟨2,XO,_,rfl,⟨Yx,.inr ⟨h1,_,h2,.inl ⟨rfl,rfl,rfl⟩⟩⟩,vY _ _ _⟩
 obtain⟨h0,j⟩:=b;exact⟨0,m,_,rfl,⟨kF h0,.inr ⟨h1,_,h2,.inr ⟨rfl,rfl⟩⟩⟩,j⟩
def nZ(b:Bs)(m:MS):Prop:=1<=b.ep/\b.ep=m.ep/\b.fs=m.fs/\b.s=m.s
theorem a2f(h:Sml m):m.s.ts.length<=1048576/\m.s.rs.length<=1048576/\∀i,(m.s.rs.getD i h_).gs.length<=1048576:=⟨I8 h.tl Z5,I8 h.rl Z5,λi=>I8 (h.gl i) Z5⟩
theorem c87(b:Bs)(q:Ba)(cd:Int)(m:MS)(fa ta ra:OA)(fc tc rc:Nat)(w:World)(hl:Ug b 1048576)(hm:Sml m)(A:Gh w b q)(hf:T.G6 w fa m.fs)(y:Ef w ta ra m.s):
 Calls prog 87 #[.agg (bsV b q).toArray,.agg #[.int .i64 cd,.int .i64 m.ep,.slice fa m.fs.length fc,.int .i64 m.s.wd,.slice ta m.s.ts.length tc,.slice ra m.s.rs.length rc]] w λe w'=>Rb (nZ b m) e/\Bw w w':=by
 have H:=U0 A;have F:=U0 hl;have E:=U0 hm;have K:=U0 hf;have J:=U0 y;clear A hl hm hf y
 go_in
 go_upto_region 1 with fail
 have d:=U0 (U8 (X4 w (bsV b q) 47) (.cells #[vI cd,vI m.ep,vL fa m.fs.length fc,vI m.s.wd,vL ta m.s.ts.length tc,vL ra m.s.rs.length rc] 62));have c:Hid (Cl ((w.alloc (.cells (bsV b q).toArray 47)).alloc (.cells #[vI cd,vI m.ep,vL fa m.fs.length fc,vI m.s.wd,vL ta m.s.ts.length tc,vL ra m.s.rs.length rc] 62)) (w.heap.size+1) 62 [vI cd,vI m.ep,vL fa m.fs.length fc,vI m.s.wd,vL ta m.s.ts.length tc,vL ra m.s.rs.length rc]):=by show Cl _ _ _ _;have h:=X4 (w.alloc (.cells (bsV b q).toArray 47)) [vI cd,vI m.ep,vL fa m.fs.length fc,vI m.s.wd,vL ta m.s.ts.length tc,vL ra m.s.rs.length rc] 62;simpa using h
 have f:Hid (Bw w ((w.alloc (.cells (bsV b q).toArray 47)).alloc (.cells #[vI cd,vI m.ep,vL fa m.fs.length fc,vI m.s.wd,vL ta m.s.ts.length tc,vL ra m.s.rs.length rc] 62))):=Y6.alloc E5 _;generalize (w.alloc (.cells (bsV b q).toArray 47)).alloc (.cells #[vI cd,vI m.ep,vL fa m.fs.length fc,vI m.s.wd,vL ta m.s.ts.length tc,vL ra m.s.rs.length rc] 62)=V at*;have D:=d.out.cell 3;have C:=d.out.cell 7;have l:=d.out.cell 8;have k:=d.out.cell 9;have n:=d.out.cell 10;simp only[gz]at D C l k n;have t:=c.out.cell 1;have B:=c.out.cell 2;have j:=c.out.cell 3;have i:=c.out.cell 4;have g:=c.out.cell 5;simp only[gz]at t B j i g;by_cases h1:1<=b.ep;rotate_left
 ·have o:Hid (¬nZ b m):=λh=>h1 h.1;go_wp2;go_ret;exact⟨X5 o,f⟩
 by_cases h2:b.ep=m.ep;rotate_left
 ·have o:Hid (¬nZ b m):=λh=>h2 h.2.1;go_wp2;go_ret;exact⟨X5 o,f⟩
 rw[<- h2]at t
 go_wp2_with fail
 refine(a3s b.fs m.fs q.fa fa q.fc fc V F.out.fl (I8 E.out.fl Z5) (T.U5 H.out.fs f) (T.U5 K f)).mono ?_;rintro e w1⟨⟨u,rfl,a⟩,p⟩;have x:=U0 (d.out.below p d.out.lt);have v:=U0 (c.out.below p c.out.lt);have r:=U0 (J5 f p);clear p D C l k n t B j i g d c f
 cases u with
 | false=>
  have o:Hid (¬nZ b m):=λh=>by have:=a.2 h.2.2.1;cases this
  clear a;go_wp2;go_ret;exact⟨X5 o,r⟩
 | true=>
 have I:=U0 (a.1 rfl);clear a;have l:=x.out.cell 8;have k:=x.out.cell 9;have n:=x.out.cell 10;simp only[gz]at l k n;have j:=v.out.cell 3;have i:=v.out.cell 4;have g:=v.out.cell 5;simp only[gz]at j i g
 go_wp2_with fail
 refine(a1H b.s m.s q.ta q.ra ta ra q.tc q.rc tc rc w1 (GY F.out.st) (a2f E) (H.out.st.below r) (J.out.below r)).mono ?_;rintro e w2⟨⟨u,rfl,a⟩,z⟩;have N:=U0 (J5 r z);have L:Hid (u=true↔nZ b m):=⟨λh=>⟨h1,h2,I,a.1 h⟩,λh=>a.2 h.2.2.2⟩;clear a z l k n j i g;go_wp2;go_ret;exact⟨⟨_,rfl,L⟩,N⟩
def JbI(b:Bs):Prop:=∀i,i<b.jb.length->(∀t,t<i->¬dm (b.jb.getD i ve) (b.jb.getD t ve))/\jy b (b.jb.getD i ve)
theorem WU{off k:Nat}{l:List Jb}(hk:k<=l.length)(hl:b<w.heap.size)(h:∀i,i<l.length->Bc w b (off+i*3) (yC (l.getD i ve))):ak w (some ⟨b,off,none⟩) (l.take k):=.inr ⟨b,off,rfl,hl,λi a=>by
 have h1:i<l.length:=by simp at a;omega
 have h2:i<k:=by simp at a;omega
 have e:(l.take k).getD i ve=l.getD i ve:=by simp[List.getD,h1,h2]
 rw[e];exact h i h1⟩
theorem c91(b:Bs)(q:Ba)(w:World)(hl:Ug b 1048576)(hcp:b.jb.length<=q.jc)(hn1:0<=b.now)(hn2:b.now<=1000000)(A:Gh w b q):
 Calls prog 91 #[.agg #[.int .i64 b.wd,.bool b.up,.int .i64 b.now,.int .i64 b.ep,.int .i64 b.ed,.slice q.sa b.sf.length q.sc,.slice q.la b.lo.length q.lc,.slice q.fa b.fs.length q.fc,.int .i64 b.s.wd,.slice q.ta b.s.ts.length q.tc,.slice q.ra b.s.rs.length q.rc,.slice q.ha b.hd.length q.hc,.slice q.oa b.rt.length q.oc,.slice q.na b.rn.length q.nc,.slice q.ja b.jb.length q.jc]] w λe w'=>Rb (JbI b) e/\Bw w w':=by
 have HA:=U0 A;have HL0:=U0 hl;have hjl:=hl.jl;obtain⟨Q,P,hc⟩:=Na A.jb;have HC:=U0 hc;clear A hl hc
 go_in
 go_upto_region 1 with fail
 have C0:=U0 (X4 w [vI b.wd,.bool b.up,vI b.now,vI b.ep,vI b.ed,vL q.sa b.sf.length q.sc,vL q.la b.lo.length q.lc,vL q.fa b.fs.length q.fc,vI b.s.wd,vL q.ta b.s.ts.length q.tc,vL q.ra b.s.rs.length q.rc,vL q.ha b.hd.length q.hc,vL q.oa b.rt.length q.oc,vL q.na b.rn.length q.nc,vL q.ja b.jb.length q.jc] 47);have B0:=U0 (Y6 (w:=w) (o:=.cells #[vI b.wd,.bool b.up,vI b.now,vI b.ep,vI b.ed,vL q.sa b.sf.length q.sc,vL q.la b.lo.length q.lc,vL q.fa b.fs.length q.fc,vI b.s.wd,vL q.ta b.s.ts.length q.tc,vL q.ra b.s.rs.length q.rc,vL q.ha b.hd.length q.hc,vL q.oa b.rt.length q.oc,vL q.na b.rn.length q.nc,vL q.ja b.jb.length q.jc] 47));generalize w.alloc (.cells #[vI b.wd,.bool b.up,vI b.now,vI b.ep,vI b.ed,vL q.sa b.sf.length q.sc,vL q.la b.lo.length q.lc,vL q.fa b.fs.length q.fc,vI b.s.wd,vL q.ta b.s.ts.length q.tc,vL q.ra b.s.rs.length q.rc,vL q.ha b.hd.length q.hc,vL q.oa b.rt.length q.oc,vL q.na b.rn.length q.nc,vL q.ja b.jb.length q.jc] 47)=V0 at*;have a:=C0.out.cell 14;simp only[gz]at a;by_cases v:b.jb.length=0
 ·have H:Hid (JbI b):=λi r=>absurd r O0;rw[v]at a;go_wp2;go_loop[9] (λi=>i=.int .i64 0) (λ_=>0)
  case atStart=>rfl
  obtain rfl:=hrel;go_wp2;go_ret;exact⟨J_ H,B0⟩
 rcases HC.out with hss|⟨ha,y,R⟩
 ·rw[hss]at v;exact absurd rfl v
 have p:Hid (∀u,Bw w u->∀t,t<b.jb.length->Bc u Q (P+t*3) (yC (b.jb.getD t ve))):=λu hu t ht=>(R t ht).below y hu;rw[ha]at a;have Z:=U0 ha;clear ha R;go_wp2;go_loopw[9] (λi wr=>∃k:Nat,k<=b.jb.length/\i=.int .i64 k/\Hid (∀i,i<k->(∀t,t<i->¬dm (b.jb.getD i ve) (b.jb.getD t ve))/\jy b (b.jb.getD i ve))/\Hid (Cl wr w.heap.size 47 [.int .i64 b.wd,.bool b.up,.int .i64 b.now,.int .i64 b.ep,.int .i64 b.ed,.slice q.sa b.sf.length q.sc,.slice q.la b.lo.length q.lc,.slice q.fa b.fs.length q.fc,.int .i64 b.s.wd,.slice q.ta b.s.ts.length q.tc,.slice q.ra b.s.rs.length q.rc,.slice q.ha b.hd.length q.hc,.slice q.oa b.rt.length q.oc,.slice q.na b.rn.length q.nc,.slice q.ja b.jb.length q.jc])/\Below w.heap.size w wr) (λi _=>b.jb.length-(RowKit.intOf i).toNat);exact⟨0,J4 _,rfl,λj h=>absurd h (y9 _),C0,B0.out⟩;obtain⟨k,g,rfl,hd,K,S⟩:=hrel;have f:=U0 S;clear S;clear a;have a:=K.out.cell 14;simp only[gz]at a;rw[Z.out]at a;by_cases m:k<b.jb.length;rotate_left
 ·obtain rfl:k=b.jb.length:=O0;have H:Hid (JbI b):=hd.out;go_wp2;go_ret;exact⟨J_ H,f⟩
 have a6w:=U9 y f.out.size;have g0:=p.out wr f k m 0 _ rfl;have g1:=p.out wr f k m 1 _ rfl;have g2:=p.out wr f k m 2 _ rfl;dsimp only[Nat.add_zero]at g0;have X:Hid (¬((∀t,t<k->¬dm (b.jb.getD k ve) (b.jb.getD t ve))/\jy b (b.jb.getD k ve))->¬JbI b):=λd h=>d (h k m);have HD:Hid (((∀t,t<k->¬dm (b.jb.getD k ve) (b.jb.getD t ve))/\jy b (b.jb.getD k ve))->∀i,i<k+1->(∀t,t<i->¬dm (b.jb.getD i ve) (b.jb.getD t ve))/\jy b (b.jb.getD i ve)):=λd j hj=>by
  rcases D8 j k with h|h
  ·exact hd j h
  obtain rfl:j=k:=O0;exact d
 have W:Hid (∀j:Jb,(∃i,i<(b.jb.take k).length/\dm j ((b.jb.take k).getD i ve))↔¬∀t,t<k->¬dm j (b.jb.getD t ve)):=λj=>by
  constructor
  ·rintro⟨i,r,h⟩ d;have h2:i<k:=by simp at r;omega
   have h1:i<b.jb.length:=O0;rw[show(b.jb.take k).getD i ve=b.jb.getD i ve by simp[List.getD,h1,h2]]at h;exact d i h2 h
  intro d;obtain⟨t,h⟩:=Classical.not_forall.1 d;obtain⟨h2,h⟩:=Classical.not_imp.1 h;have h1:t<b.jb.length:=O0;refine⟨t,Q8,?_⟩;rw[show(b.jb.take k).getD t ve=b.jb.getD t ve by simp[List.getD,h1,h2]];exact CJ.1 h
 generalize b.jb.getD k ve=j at*;clear hd
 go_upto_region 4 with fail
 have l:=U0 (X4 wr [vS j.nm,vI j.wk,vI j.un] 127);have BV:=U0 (Y6 (w:=wr) (o:=.cells #[vS j.nm,vI j.wk,vI j.un] 127));generalize wr.alloc (.cells #[vS j.nm,vI j.wk,vI j.un] 127)=V at*;have N:=U0 (K.out.below BV K.out.lt);have I:=U0 (J5 f BV);clear g0 g1 g2 a;have a:=N.out.cell 14;simp only[gz]at a;have D:=l.out.cell 0;have C:=l.out.cell 1;simp only[gz]at D C;rw[Z.out]at a;have hkc:k<=q.jc:=O0;have x:=a3n (some (aA Q P)) q.jc (b.jb.take k) j wr.heap.size V (by rw[qp g];omega) (WU g (U9 y I.out.size) (p V I)) D C l.out.lt;rw[qp g]at x;have Y:=U0 x;clear x
 go_wp2_with fail
 refine Y.out.mono ?_;rintro e w1⟨⟨E,rfl,c⟩,n⟩;have L:=U0 (N.out.below n N.out.lt);have D2:=U0 (l.out.below n l.out.lt);have F:=U0 (J5 I n);clear n a D C Y
 cases E with
 | true=>
  have J:=U0 (X.out (λh=>(W j).1 (by rw[qp g];exact c.1 rfl) h.1));clear c;go_wp2;go_ret;exact⟨X5 J,F⟩
 | false=>
 have HO:Hid (∀t,t<k->¬dm j (b.jb.getD t ve)):=by
  refine CJ.1 λh=>?_;have:=c.2 (by have O:=(W.out j).2 h;rw[qp g]at O;exact O);cases this
 clear c
 go_wp2_with(first|(refine xw rfl 47 _ rfl (B:=w.heap.size) rfl L.out underlying47 rfl Y1 ?_)|(refine xw rfl 127 _ rfl (B:=wr.heap.size) rfl D2.out underlying127 rfl Y1 ?_))
 refine(c157 b q j w1 HL0 hn1 hn2 (Ff HA.out.rn F)).mono ?_;rintro e w2⟨⟨E,rfl,c⟩,z⟩;have C3:=U0 (L.out.below z L.out.lt);have U:=U0 (J5 F z);clear z
 cases E with
 | false=>
  have J:=U0 (X.out (λh=>by have:=c.2 h.2;cases this));clear c;go_wp2;go_ret;exact⟨X5 J,U⟩
 | true=>
  have HD1:=U0 (HD.out ⟨HO,c.1 rfl⟩);clear c;go_wp2;go_roundw;exact⟨k+1,O0,by go_num,HD1,C3,U.out⟩;exact Z9
theorem a1p{fa ta ra:OA}{fc tc rc:Nat}(h:Me w b cd m [.int .i64 cd,.int .i64 m.ep,.slice fa m.fs.length fc,.int .i64 m.s.wd,.slice ta m.s.ts.length tc,.slice ra m.s.rs.length rc]):Kp b w λu=>T.G6 u fa m.fs/\Ef u ta ra m.s:=λu a c=>by
 obtain⟨_,_,_,_,_,_,e,f,d⟩:=(h.keep a c).rd;simp at e;obtain⟨⟨rfl,rfl⟩,⟨rfl,rfl⟩,rfl,rfl⟩:=e;exact⟨f,d⟩
theorem a4O(a:OA)(cap:Nat)(es:LB)(W:Int)(w:World)(hl:es.length<=1048576)(b:∀i,(es.getD i ByteArray.empty).size<=1048576)(f:Z7 w a es)(c:Jc w):
 Calls prog 84 #[.slice a es.length cap,.int .i64 W] w λe w'=>(∃cd m fa fc ta tc ra rc,e=.returned (.agg #[.int .i64 cd,.int .i64 m.ep,.slice fa m.fs.length fc,.int .i64 m.s.wd,.slice ta m.s.ts.length tc,.slice ra m.s.rs.length rc])/\Out RE es W cd m/\Kp w.heap.size w' λu=>T.G6 u fa m.fs/\Ef u ta ra m.s)/\Bw w w':=by
 refine(a5p a cap es W w hl b f c).mono ?_;rintro e w'⟨⟨cd,m,vs,rfl,h1,h2⟩,d⟩;have g:=h2;obtain⟨fa,fc,ta,tc,ra,rc,rfl,_,_⟩:=h2;exact⟨⟨cd,m,fa,fc,ta,tc,ra,rc,rfl,h1,a1p g⟩,d⟩
theorem a4U(a:OA)(cap:Nat)(es:LB)(W:Int)(w:World)(hl:es.length<=1048576)(f:∀i,(es.getD i ByteArray.empty).size<=1048576)(n:Z7 w a es):
 Calls prog 20 #[.slice a es.length cap,.int .i64 W] w λe w'=>(∃cd m fa fc ta tc ra rc,e=.returned (.agg #[.int .i64 cd,.int .i64 m.ep,.slice fa m.fs.length fc,.int .i64 m.s.wd,.slice ta m.s.ts.length tc,.slice ra m.s.rs.length rc])/\Out RES es W cd m/\Kp w.heap.size w' λu=>T.G6 u fa m.fs/\Ef u ta ra m.s)/\Bw w w':=by
 refine(c20 a cap es W w hl f n).mono ?_;rintro e w'⟨⟨vs,rfl,h⟩,l⟩;refine⟨?_,l⟩;rcases h with⟨h1,rfl⟩|⟨h1,o,h2,c⟩
 ·exact⟨1,XO,none,0,none,0,none,0,rfl,⟨Yx,.inl ⟨h1,rfl,rfl⟩⟩,λu _ _=>⟨.inl rfl,.inl rfl,.inl rfl⟩⟩
 rcases c with⟨rfl,rfl⟩|⟨m,rfl,c⟩
 ·exact⟨2,XO,none,0,none,0,none,0,rfl,⟨Yx,.inr ⟨h1,_,h2,.inl ⟨rfl,rfl,rfl⟩⟩⟩,λu _ _=>⟨.inl rfl,.inl rfl,.inl rfl⟩⟩
 obtain⟨fv,tv,rv,rfl,b,d⟩:=c.ex;obtain⟨fa,fc,rfl,hf⟩:=Ij b;obtain⟨ta,tc,rfl⟩:=D9 d.1;have r:=d;obtain⟨_,vs0,k⟩:=d;obtain⟨ra,rc,rfl⟩:=D9 k.row;refine⟨0,m,fa,fc,ta,tc,ra,rc,rfl,⟨kF c.ok,.inr ⟨h1,_,h2,.inr ⟨rfl,rfl⟩⟩⟩,λu f j=>⟨?_,Ep (r.keep j)⟩⟩;have p:=I5 (u':=u) b (λq g=>j q (Z4 b g) (X9 b g));obtain⟨fa',fc',e,hf⟩:=Ij p;injection e with e;subst e;exact hf
structure MT(R:List UInt8->z_->Bool->Prop)(w:World)(b:Bs)(q:Ba)(A:Nat)(cd:Int)(m:MS)(fa ta ra:OA)(fc tc rc:Nat)(u:World):Prop where
 out:Out R (b.sf++b.lo) b.wd cd m
 cm:Cl u A 62 [.int .i64 cd,.int .i64 m.ep,.slice fa m.fs.length fc,.int .i64 m.s.wd,.slice ta m.s.ts.length tc,.slice ra m.s.rs.length rc]
 cb:Cl u w.heap.size 47 (bsV b q)
 fl:T.G6 u fa m.fs
 st:Ef u ta ra m.s
 bel:Bw w u
def Pre(b:Bs):Prop:=(0<=b.now/\b.now<=1000000)/\Hrd b.hd b.now
def Upp(b:Bs)(m:MS):Prop:=nZ b m/\(0<=b.ed/\b.ed<=1000)/\IJ b.rt/\∃ms,G.dh b.fs ms/\dG ms b.rn/\JbI b
def VM(b:Bs)(m:MS):Prop:=(b.up=true/\Upp b m)\/(b.up=false/\xC b)
theorem lW(b:Bs)(q:Ba)(w:World)(hl:Ug b 1048576)(hsl:b.sf.length+b.lo.length<=1048576)(hcp:ER b q)(hv:G.Uo w)(hat:Gh w b q):
 Calls prog 30 #[.agg (bsV b q).toArray] w λe w'=>((e=.returned (.bool false)/\¬Pre b)\/∃cd m,Out RE (b.sf++b.lo) b.wd cd m/\Rb (Pre b/\cd=0/\VM b m) e)/\Bw w w':=by
 have I:=U0 hat;have F:=U0 hl;have HV:=U0 hv;have HCP:=U0 hcp;have HES:Hid (∀i,((b.sf++b.lo).getD i ByteArray.empty).size<=1048576):=λi=>by
  by_cases h:i<b.sf.length
  ·rw[show(b.sf++b.lo).getD i ByteArray.empty=b.sf.getD i ByteArray.empty by simp[List.getD,G_ h]];exact hl.ss i
  rw[show(b.sf++b.lo).getD i ByteArray.empty=b.lo.getD (i-b.sf.length) ByteArray.empty by simp[List.getD,Ue (Js h)]];exact hl.ls _
 clear hat hl hv hcp
 go_in
 go_upto_region 1 with fail
 have R:=U0 (X4 w (bsV b q) 47);have L:=U0 (Y6 (w:=w) (o:=.cells (bsV b q).toArray 47));generalize w.alloc (.cells (bsV b q).toArray 47)=V at*;have a2:=R.out.cell 2;have a11:=R.out.cell 11;simp only[gz]at a2 a11;by_cases h1:b.now<0
 ·have Q:Hid (¬Pre b):=λh=>by have:=h.1.1;omega
  go_wp2;go_ret;exact⟨.inl ⟨rfl,Q.out⟩,L.out⟩
 by_cases h2:1000000<b.now
 ·have Q:Hid (¬Pre b):=λh=>by have:=h.1.2;omega
  go_wp2;go_ret;exact⟨.inl ⟨rfl,Q.out⟩,L.out⟩
 go_wp2_with fail
 refine(c83 q.ha q.hc b.hd b.now V F.out.hl (Jh I.out.hd L.out)).mono ?_;rintro e V'⟨⟨D,rfl,f⟩,hw⟩;obtain rfl:=hw.symm
 cases D with
 | false=>
  have Q:Hid (¬Pre b):=λh=>by have:=f.2 h.2;cases this
  clear f;go_wp2;go_ret;exact⟨.inl ⟨rfl,Q.out⟩,L.out⟩
 | true=>
 have HPR:Hid (Pre b):=⟨⟨O0,O0⟩,f.1 rfl⟩;clear f a2 a11
 go_upto_region 3 with fail
 go_cut[3] from 4 (λs3 wx=>∃A cd m fa ta ra fc tc rc,s3=.pointer (some (aA A 0))/\Hid (MT RE w b q A cd m fa ta ra fc tc rc wx))
 case first=>
  have l:Hid (∀u,Bw V u->u.cell? (aW w 0)=some (vI b.wd)/\u.cell? (aW w 5)=some (vL q.sa b.sf.length q.sc)/\u.cell? (aW w 6)=some (vL q.la b.lo.length q.lc)):=λu p=>have h:=R.out.below p R.out.lt;⟨h.cell 0,h.cell 5,h.cell 6⟩
  have bd:Bw V V.drew:=(G5 _ _).drew;have HCA:Hid (∀u,Bw V u->Calls prog 85 #[.agg #[.slice q.sa b.sf.length q.sc,.slice q.la b.lo.length q.lc]] u λe w'=>(∃a c,e=.returned (vL a (b.sf++b.lo).length c)/\Z7 w' a (b.sf++b.lo))/\Bw u w'):=λu p=>c85 b.sf b.lo q.sa q.la q.sc q.lc u hsl (P6 I.out.sf (J5 L.out p)) (P6 I.out.lo (J5 L.out p));have HCB:Hid (∀u a c,Bw V u->Z7 u a (b.sf++b.lo)->Calls prog 84 #[.slice a (b.sf.length+b.lo.length) c,.int .i64 b.wd] u λe w'=>(∃cd m fa fc ta tc ra rc,e=.returned (.agg #[vI cd,vI m.ep,vL fa m.fs.length fc,vI m.s.wd,vL ta m.s.ts.length tc,vL ra m.s.rs.length rc])/\Out RE (b.sf++b.lo) b.wd cd m/\Kp u.heap.size w' λu=>T.G6 u fa m.fs/\Ef u ta ra m.s)/\Bw u w'):=λu a c p h=>by
   have hc:=a4O a c (b.sf++b.lo) b.wd u (by rw[P9];exact hsl) HES.out h (Q9 HV.out.vr.mx (J5 L.out p));rw[P9]at hc;exact hc
  have HMK:Hid (∀(y z:World)(A:Nat)(cd:Int)(m:MS)(fa ta ra:OA)(fc tc rc:Nat),Bw V y->V.heap.size<=A->Jr A y z->Cl z A 62 [vI cd,vI m.ep,vL fa m.fs.length fc,vI m.s.wd,vL ta m.s.ts.length tc,vL ra m.s.rs.length rc]->Out RE (b.sf++b.lo) b.wd cd m->T.G6 z fa m.fs/\Ef z ta ra m.s->MT RE w b q A cd m fa ta ra fc tc rc z):=λy z A cd m fa ta ra fc tc rc h1 h2 X W h5 h6=>by
   have h7:=h1.trans (X.below h2);exact⟨h5,W,R.out.below h7 R.out.lt,h6.1,h6.2,J5 L.out h7⟩
  refine FI l bd Y1 λhH=>?_;refine p_ 0 ?_;refine p_ 1 ?_;refine p_ 3 ?_;refine p_ 4 ?_;refine wpAnyH_ready (rs:=[2,6]) Y1 E5 (AllReadyH.cons (o:=⟨some 22,.call ⟨.value (.func 85),#[.tmp 21],#[37]⟩,22,_,_,none⟩) rfl (λK d=>?_) (AllReadyH.cons (o:=⟨some 3,.alloc 62,0,_,_,none⟩) rfl (λK d=>?_) AllReadyH.nil))
  ·go_simp;refine(HCA _ bd).mono ?_;rintro e Z⟨⟨a1,k1,rfl,h1⟩,n⟩;have E:=bd.trans n;have S1:=U0 h1;clear h1 n
   go_wp2_with fail
   refine A8 d (l _ E) λhH=>?_;clear d K;refine wpAnyH_ready (rs:=[5,6]) Y1 E5 (AllReadyH.cons (o:=⟨some 25,.call ⟨.value (.func 84),#[.tmp 22,.tmp 24],#[22,3]⟩,62,_,_,none⟩) rfl (λK d=>?_) (AllReadyH.cons (o:=⟨some 3,.alloc 62,0,_,_,none⟩) rfl (λK d=>?_) AllReadyH.nil))
   ·go_simp;refine(HCB Z a1 k1 E S1).mono ?_;rintro e U⟨⟨cd,m,fa,fc,ta,tc,ra,rc,rfl,ho,N⟩,n⟩;have g:=J5 E n;have x:=U0 ho;have HK:=U0 N;clear ho N n
    go_wp2_with fail
    refine A8 d (l _ g) λhH=>?_;clear d K;refine rq 6 λK d=>?_;go_simp;have J:=U0 (X4 U [vO,vO,vN,vO,vN,vN] 62);have P:Bw V (U.alloc (.cells #[vO,vO,vN,vO,vN,vN] 62)):=g.alloc g.size _;refine A8 d (l _ P) λhH=>?_;clear d K;refine rq 7 λK d=>?_;refine t_ rfl 62 _ _ rfl (j:=0) rfl rfl J X7 (je rfl rfl rfl rfl rfl rfl) Y1 ?_;intro z cz C;have t:=U0 (HMK.out _ z U.heap.size cd m fa ta ra fc tc rc P g.size C cz x (HK z (by have:=C.size;simp at this;omega) (λq _ hq=>(C.block q O0).trans (Lib.alloc_old U _ q hq))));refine A8 d (l _ (P.trans (C.below g.size))) λhH=>?_;clear d K;refine wdn ?_
    go_wp2_with fail
    go_meet
    exact⟨_,_,_,_,_,_,_,_,_,rfl,t⟩
   go_simp;have J:=U0 (X4 Z [vO,vO,vN,vO,vN,vN] 62);have g:Bw V (Z.alloc (.cells #[vO,vO,vN,vO,vN,vN] 62)):=E.alloc E.size _;have S2:=U0 (P6 S1 (Y6 (w:=Z) (o:=.cells #[vO,vO,vN,vO,vN,vN] 62)));refine A8 d (l _ g) λhH=>?_;clear d K;refine rq 5 λK d=>?_;go_simp;refine(HCB _ a1 k1 g S2).mono ?_;rintro e y3⟨⟨cd,m,fa,fc,ta,tc,ra,rc,rfl,ho,N⟩,n⟩;have O:=J5 g n;have x:=U0 ho;have HK:=U0 N;have a6g:=U0 (J.out.below n J.out.lt);have hAl:=U0 J.out.lt;clear ho N n
   go_wp2_with fail
   refine A8 d (l _ O) λhH=>?_;clear d K;refine rq 7 λK d=>?_;refine t_ rfl 62 _ _ rfl (j:=0) rfl rfl a6g X7 (je rfl rfl rfl rfl rfl rfl) Y1 ?_;intro z cz C;have t:=U0 (HMK.out _ z Z.heap.size cd m fa ta ra fc tc rc O E.size C cz x (HK.out.on C hAl).now);refine A8 d (l _ (O.trans (C.below E.size))) λhH=>?_;clear d K;refine wdn ?_
   go_wp2_with fail
   go_meet
   exact⟨_,_,_,_,_,_,_,_,_,rfl,t⟩
  go_simp;have CA0:=U0 (X4 V.drew [vO,vO,vN,vO,vN,vN] 62);have E:Bw V (V.drew.alloc (.cells #[vO,vO,vN,vO,vN,vN] 62)):=bd.alloc X7 _;refine A8 d (l _ E) λhH=>?_;clear d K;refine rq 2 λK d=>?_;go_simp;refine(HCA _ E).mono ?_;rintro e U⟨⟨a1,k1,rfl,h1⟩,n⟩;have g:=J5 E n;have J:=U0 (CA0.out.below n CA0.out.lt);have S1:=U0 h1;clear h1 n
  go_wp2_with fail
  refine A8 d (l _ g) λhH=>?_;clear d K;refine rq 5 λK d=>?_;go_simp;refine(HCB U a1 k1 g S1).mono ?_;rintro e y3⟨⟨cd,m,fa,fc,ta,tc,ra,rc,rfl,ho,N⟩,n⟩;have O:=J5 g n;have x:=U0 ho;have HK:=U0 N;have a6g:=U0 (J.out.below n J.out.lt);have hAl:=U0 J.out.lt;clear ho N n
  go_wp2_with fail
  refine A8 d (l _ O) λhH=>?_;clear d K;refine rq 7 λK d=>?_;refine t_ rfl 62 _ _ rfl (j:=0) rfl rfl a6g X7 (je rfl rfl rfl rfl rfl rfl) Y1 ?_;intro z cz C;have t:=U0 (HMK.out _ z V.drew.heap.size cd m fa ta ra fc tc rc O X7 C cz x (HK.out.on C hAl).now);refine A8 d (l _ (O.trans (C.below X7))) λhH=>?_;clear d K;refine wdn ?_
  go_wp2_with fail
  go_meet
  exact⟨_,_,_,_,_,_,_,_,_,rfl,t⟩
 obtain⟨A,cd,m,fa,ta,ra,fc,tc,rc,rfl,t⟩:=hcut;have x:=U0 t.out.out;have CM:=U0 t.out.cm;have CB:=U0 t.out.cb;have r:=U0 t.out.bel;have HF:=U0 t.out.fl;have HSt:=U0 t.out.st;have HSM:=U0 t.out.out.1;clear t R L;have m0:=CM.out.cell 0;simp only[gz]at m0;have a1:=CB.out.cell 1;simp only[gz]at a1;by_cases hcd:cd=0;rotate_left
 ·have Q:Hid (¬(Pre b/\cd=0/\VM b m)):=λh=>hcd h.2.1;go_wp2;go_ret;exact⟨.inr ⟨cd,m,x,X5 Q⟩,r⟩
 rw[hcd]at m0;have HCD:=U0 hcd;clear hcd
 cases hup:b.up with
 | false=>
  rw[hup]at a1;have Y:=U0 hup;clear hup
  go_wp2_with(refine Vb rfl (d_ 47 _ rfl (B:=w.heap.size) (j:=0) (cs:=(bsV b q)) rfl (λq v e=>by rw[o9];exact(CB.out.cell q).trans e) underlying47 rfl Y1) ?_)
  refine(c86 b q wc F HPR.out.2.1 (I.out.below r)).mono ?_;rintro e w2⟨⟨D,rfl,f⟩,hb2⟩;have HE:Hid (D=true↔Pre b/\cd=0/\VM b m):=⟨λh=>⟨HPR,HCD,.inr ⟨Y,f.1 h⟩⟩,λh=>f.2 (by rcases h.2.2 with⟨k,_⟩|⟨_,k⟩;(rw[Y.out]at k;cases k);exact k)⟩;have B2:=U0 (J5 r hb2);clear f hb2;go_wp2;go_ret;exact⟨.inr ⟨cd,m,x,_,rfl,HE⟩,B2⟩
 | true=>
 rw[hup]at a1;have Y:=U0 hup;clear hup;have HNO:Hid (¬Upp b m->¬(Pre b/\cd=0/\VM b m)):=λh k=>by
  rcases k.2.2 with⟨_,k⟩|⟨k,_⟩
  ·exact h k
  rw[Y.out]at k;cases k
 have HYE:Hid (Upp b m->Pre b/\cd=0/\VM b m):=λh=>⟨HPR,HCD,.inl ⟨Y,h⟩⟩
 go_upto_region 8 with fail
 clear m0 a1;have l:Hid (∀u,Bw wc u->Cl u w.heap.size 47 (bsV b q)/\Cl u A 62 [vI cd,vI m.ep,vL fa m.fs.length fc,vI m.s.wd,vL ta m.s.ts.length tc,vL ra m.s.rs.length rc]/\u.cell? (aW w 4)=some (vI b.ed)/\u.cell? (aW w 7)=some (vL q.fa b.fs.length q.fc)/\u.cell? (aW w 12)=some (vL q.oa b.rt.length q.oc)/\u.cell? (aW w 13)=some (vL q.na b.rn.length q.nc)):=λu p=>by
  have h1:=CB.out.below p CB.out.lt;have h2:=CM.out.below p CM.out.lt;exact⟨h1,h2,h1.cell 4,h1.cell 7,h1.cell 12,h1.cell 13⟩
 have hvd:Bw wc wc.drew:=(G5 _ _).drew;refine wp_region_held_drew (S:=λu=>Cl u w.heap.size 47 (bsV b q)/\Cl u A 62 [vI cd,vI m.ep,vL fa m.fs.length fc,vI m.s.wd,vL ta m.s.ts.length tc,vL ra m.s.rs.length rc]/\u.cell? (aW w 4)=some (vI b.ed)/\u.cell? (aW w 7)=some (vL q.fa b.fs.length q.fc)/\u.cell? (aW w 12)=some (vL q.oa b.rt.length q.oc)/\u.cell? (aW w 13)=some (vL q.na b.rn.length q.nc)) Y1 (l _ hvd) λhH=>?_;refine tq 0 hH ?_ (hv:=λu p=>d_ 47 _ rfl (B:=w.heap.size) (j:=0) (cs:=(bsV b q)) rfl (λq v e=>by rw[o9];exact(p.1.cell q).trans e) underlying47 rfl Y1)
 try simp only[qq]
 refine tq 1 hH ?_ (hv:=λu p=>d_ 62 _ rfl (B:=A) (j:=0) (cs:=[vI cd,vI m.ep,vL fa m.fs.length fc,vI m.s.wd,vL ta m.s.ts.length tc,vL ra m.s.rs.length rc]) rfl (λq v e=>by rw[o9];exact(p.2.1.cell q).trans e) underlying62 rfl Y1)
 try simp only[qq]
 refine rq 2 λK d=>?_;go_simp;have a7d:=U0 (c87 b q cd m fa ta ra fc tc rc wc.drew F HSM (I.out.below (J5 r hvd)) (T.U5 HF hvd) (HSt.out.below hvd));refine a7d.out.mono ?_;rintro e w2⟨⟨D,rfl,f⟩,hb2⟩;have g:=hvd.trans (hb2.mono X7);clear hb2 a7d
 go_wp2_with fail
 refine A8 d (l _ g) λhH=>?_;clear d K
 cases D with
 | false=>
  have H:=U0 (HNO.out (λh=>by have:=f.2 h.1;cases this));clear f
  iterate 28 refine sq ?_
  refine wdn ?_;go_wp2;go_ret;exact⟨.inr ⟨cd,m,x,X5 H⟩,J5 r g⟩
 | true=>
 have HR:=U0 (f.1 rfl);clear f
 iterate 3 refine sq ?_
 by_cases X:0<=b.ed;rotate_left
 ·have H:=U0 (HNO.out (λh=>X h.2.1.1));have z:b.ed<0:=O0;refine sq ?_
  try rw[o_ X]
  iterate 24 refine sq ?_
  refine wdn ?_;go_wp2;go_ret;exact⟨.inr ⟨cd,m,x,X5 H⟩,J5 r g⟩
 refine sq ?_
 try rw[X_ X]
 iterate 4 refine sq ?_
 by_cases W:b.ed<=1000;rotate_left
 ·have H:=U0 (HNO.out (λh=>W h.2.1.2));have z:1000<b.ed:=O0;refine sq ?_
  try rw[o_ W]
  iterate 19 refine sq ?_
  refine wdn ?_;go_wp2;go_ret;exact⟨.inr ⟨cd,m,x,X5 H⟩,J5 r g⟩
 refine sq ?_
 try rw[X_ W]
 iterate 4 refine sq ?_
 refine rq 16 λK d=>?_;go_simp;refine(c88 q.oa q.oc b.rt w2 HCP.out.1 F.out.rl F.out.rs (P6 I.out.rt (J5 r g))).mono ?_;rintro e w3⟨⟨D,rfl,f⟩,hw3⟩;obtain rfl:=hw3.symm
 go_wp2_with fail
 refine A8 d (l _ g) λhH=>?_;clear d K
 cases D with
 | false=>
  have H:=U0 (HNO.out (λh=>by have:=f.2 h.2.2.1;cases this));clear f
  iterate 14 refine sq ?_
  refine wdn ?_;go_wp2;go_ret;exact⟨.inr ⟨cd,m,x,X5 H⟩,J5 r g⟩
 | true=>
 have HRT:=U0 (f.1 rfl);clear f
 iterate 6 refine sq ?_
 refine rq 23 λK d=>?_;go_simp;refine(G.c90 q.fa q.fc b.fs w2 F.out.fl F.out.fz (T.U5 I.out.fs (J5 r g)) (HV.out.below (J5 r g))).mono ?_;rintro e w3⟨⟨ms,v,rfl,hrow,hpt⟩,hb3⟩;obtain⟨pa,pc,rfl,hmk⟩:=G.Wq hrow;have P:=J5 g hb3;have HPT:=U0 hpt;have HMK:=U0 hmk;clear hb3 hrow hpt hmk
 go_wp2_with fail
 refine A8 d (l _ P) λhH=>?_;clear d K;refine rq 24 λK d=>?_;go_simp;refine(c89 q.na pa q.nc pc b.rn ms w3 F.out.nl F.out.ns (G.VH HPT) (G.TQ HPT) (Ff I.out.rn (J5 r P)) HMK).mono ?_;rintro e w4⟨⟨D,rfl,f⟩,hb4⟩;have b4:=J5 P hb4;clear hb4
 go_wp2_with fail
 refine A8 d (l _ b4) λhH=>?_;clear d K
 cases D with
 | false=>
  have H:=U0 (HNO.out (λh=>by
   obtain⟨ms',h5,h6,_⟩:=h.2.2.2;obtain rfl:=G.VB h5 HPT.out;have:=f.2 h6;cases this))
  clear f
  iterate 6 refine sq ?_
  refine wdn ?_;go_wp2;go_ret;exact⟨.inr ⟨cd,m,x,X5 H⟩,J5 r b4⟩
 | true=>
 have HRN:=U0 (f.1 rfl);clear f
 iterate 2 refine sq ?_
 refine tq 27 hH ?_ (hv:=λu p=>d_ 47 _ rfl (B:=w.heap.size) (j:=0) (cs:=(bsV b q)) rfl (λq v e=>by rw[o9];exact(p.1.cell q).trans e) underlying47 rfl Y1)
 try simp only[qq]
 refine rq 28 λK d=>?_;go_simp;refine(c91 b q w4 F HCP.out.2.1 HPR.out.1.1 HPR.out.1.2 (I.out.below (J5 r b4))).mono ?_;rintro e w5⟨⟨D,rfl,f⟩,hb5⟩;have b5:=J5 b4 hb5;have HE:Hid (D=true↔Pre b/\cd=0/\VM b m):=⟨λh=>HYE.out ⟨HR,⟨X,W⟩,HRT,ms,HPT,HRN,f.1 h⟩,λh=>f.2 (by
  rcases h.2.2 with⟨_,k⟩|⟨k,_⟩
  ·obtain⟨_,_,_,k⟩:=k.2.2.2;exact k
  rw[Y.out]at k;cases k)⟩
 have B5:=U0 (J5 r b5);clear hb5 f
 go_wp2_with fail
 refine A8 d (l _ b5) λhH=>?_;clear d K
 iterate 2 refine sq ?_
 refine wdn ?_;go_wp2;go_ret;exact⟨.inr ⟨cd,m,x,_,rfl,HE⟩,B5⟩
