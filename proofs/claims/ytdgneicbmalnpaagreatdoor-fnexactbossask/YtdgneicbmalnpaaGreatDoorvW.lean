import Derived.Test.YtdgneicbmalnpaaGreatDoorzB
import Derived.Test.YtdgneicbmalnpaaGreatDoorvV
set_option maxHeartbeats 0
set_option maxRecDepth 99999
set_option linter.all false
open Go.Value renaming slice->Sa,string->Sb,int->Sc,pointer->Sd
open Go.IntKind renaming i64->Se
open Go.Obj renaming cells->Sg
namespace Go.Proofs.YtdgneicbmalnpaaGreatDoor
open Proofs.Tryz Go.RowKit
section
variable{b0 R fc H B bT bR bP:Nat}{m:MS}{fa:OA}{rv:List Value}{u:World}
theorem oJ.ep(h:oJ b0 R m fa fc H B bT bR bP rv u)(n:Int)(h0:0<=n/\n<=200):oJ b0 R ⟨n,m.fs,m.s⟩ fa fc H B bT bR bP rv (u.setCell ⟨R,0,none⟩ (Sc Se n)):=
 have o:=u_ u R 0 (vI n)
 ⟨⟨h0.1,h0.2,h.ok.fl,h.ok.fz,h.ok.st⟩,h.cr.set 0 _,eu h.nf (Vf o.size.symm) (λq a=>o.block q (λe=>absurd (N8 a (e▸I_ h.cr)) U5)) A8,h.sh.a1i h.cr 0 _,h.hB,h.hR⟩
theorem oJ.fs{a:OA}{b c:Nat}{gs:List T.F2}(h:oJ b0 R m fa fc H B bT bR bP rv u)(f:T.Wn c u a gs)(g:b0<=c)(hl:gs.length<=40)(hz:∀i,(gs.getD i T.o9).le 4000):oJ b0 R ⟨m.ep,gs,m.s⟩ a b H B bT bR bP rv (u.setCell ⟨R,1,none⟩ (Sa a gs.length b)):=
 have o:=u_ u R 1 (vL a gs.length b)
 ⟨⟨h.ok.e0,h.ok.e1,hl,hz,h.ok.st⟩,h.cr.set 1 _,eu f (Vf o.size.symm) (λq d=>o.block q (λe=>absurd (N8 d (e▸I_ h.cr)) U5)) g,h.sh.a1i h.cr 1 _,h.hB,h.hR⟩
theorem oJ.ts{a B' c d f:Nat}{b:List Value}{s':St}(h:oJ b0 R m fa fc H B bT bR bP rv u)(hs:Sh B' a c d f s'.wd (s'.ts.map (gT s'.wd)) s'.rs b u)(i:b0<=B')(hk:Lh s'):oJ b0 R ⟨m.ep,m.fs,s'⟩ fa fc a B' c d f b (u.setCell ⟨R,2,none⟩ (Sd (some ⟨a,0,none⟩))):=
 have o:=u_ u R 2 (Sd (some (aA a 0)))
 ⟨⟨h.ok.e0,h.ok.e1,h.ok.fl,h.ok.fz,hk⟩,h.cr.set 2 _,eu h.nf (Vf o.size.symm) (λq g=>o.block q (λe=>absurd (N8 g (e▸I_ h.cr)) U5)) A8,hs.a1i h.cr 2 _,i,h.hR⟩
end
theorem c164(b0 R:Nat)(m:MS)(x:z_)(v:OA)(L:Nat)(w:World)(hM:ImM b0 R m w)(X:b0<=w.heap.size)(hmx:Vd w)(hx:I9 x)(hxl:x.le 1048576)(hlk:O9 w v x.ls):
 Calls prog 164 #[Sd (some ⟨R,0,none⟩),kW x v L] w λe w'=>a1d w b0 R m x e w'/\Below b0 w w':=by
 obtain⟨fa,fc,H,B,bT,bR,bP,rv,p⟩:=hM;have I:=U0 p;have HLK:=U0 hlk;have e0:=p.ok.e0;have e1:=p.ok.e1;have V:=p.cr.cell 0;have U:=p.cr.cell 1;have N:=p.cr.cell 2;have E:=p.cr.opn;have hR:=p.hR;have hRl:=p.cr.lt;simp only[gz]at V U N;clear p hlk;rcases hx with⟨n,hn,rfl⟩|⟨a,b,h,rfl⟩|⟨a,h,rfl⟩|⟨km,ls,c,t,h,rfl⟩|rfl
 ·have h0:=mY;show Calls prog 164 #[_,.iface 306 (Sc Se n)] w _;have f0:=E 0;clear E
  go_in
  by_cases hne:n=m.ep+1;rotate_left
  ·have d:Hid (dn m (A_ n)=none):=by show _=_;exact a0E.trans (U7 hne)
   go_wp2;go_ret;exact⟨⟨by rw[d.o];rfl,λm' c=>by rw[d.o]at c;cases c⟩,O4 _ _⟩
  obtain rfl:=hne;have d:Hid (dn m (A_ (m.ep+1))=some ⟨m.ep+1,m.fs,m.s⟩):=by show _=_;exact a0E.trans (D8 rfl)
  have l:=U0 (I.o.ep (m.ep+1) ⟨O0,hn.2⟩);go_wp2;go_ret;exact⟨⟨by rw[d.o];rfl,λm' c=>by rw[d.o]at c;cases c;exact⟨_,_,_,_,_,_,_,_,l.o⟩⟩,(O4 _ _).setCell hR _⟩
 ·have h0:=QY;have h1:=gY;clear E;show Calls prog 164 #[_,.iface 307 (.agg #[Sb a,Sb b])] w _;have HX4:Hid ((⟨a,b⟩:T.F2).le 1048576):=⟨by have:=YU h.1;show a.size<=1048576;omega,by show b.size<=1048576;omega⟩;have HFZ:Hid (∀i,(m.fs.getD i T.o9).le 1048576):=λi=>⟨X7 (I.o.ok.fz i).1 U5,X7 (I.o.ok.fz i).2 U5⟩
  go_in
  go_upto_region 10 with fail
  obtain⟨y,g⟩:∃q:World,q=w.alloc (Sg #[vS a,vS b] 307):=⟨_,rfl⟩;have f:Bw w y:=by rw[g];exact U6
  have o:Hid (Cl y w.heap.size 307 [vS a,vS b]):=by show Cl _ _ _ _;rw[g];exact I4 w [_,_] 307
  rw[<- g];have j:Bw y y.drew:=(O4 _ _).drew;have z:=U0 ((I.o.below f).below j);have Z:=U0 (o.o.below j o.o.lt);clear g V U N;refine wp_region_held_drew (S:=λu=>u.cell? (aW w 0)=some (vS a)/\u.cell? (aW w 1)=some (vS b)) Y0 ⟨Z.o.cell 0,Z.o.cell 1⟩ λhH=>?_;refine y_ 0 ?_;refine y_ 1 ?_;refine y_ 2 ?_;refine y_ 3 ?_;refine y_ 5 ?_;have J:=z.o.cr.cell 1;simp only[gz]at J;refine rq 4 λK k=>?_;go_simp;refine G9 k hH λhH=>?_;clear k K J;refine rq 6 λK k=>?_;go_simp;refine(T.a5K fa fc m.fs ⟨a,b⟩ y.drew (by have:=I.o.ok.fl;omega) HFZ.o HX4.o z.o.nf.1).mono ?_;rintro e w1⟨⟨P,O,cd,gs,rfl,W,r⟩,F⟩;have A:=U0 (z.o.below F);have C1:=U0 (Z.o.below F Z.o.lt);have HNF:=U0 W;have B1:=U0 (((f.mono X).trans (j.mono (by have:=f.size;omega))).trans (F.mono (by have:=f.size;have:=j.size;omega)));have C:Hid (dn m (Mc a b)=if cd=0 then some ⟨m.ep,gs,m.s⟩ else none):=by
   show _=_;by_cases hc:cd=0
   ·subst hc;rw[D8 rfl,dZ,uV r];rfl
   rw[U7 hc,dZ,xR r hc];rfl
  have l:Hid (cd=0->oJ b0 R ⟨m.ep,gs,m.s⟩ P O H B bT bR bP rv (w1.setCell (aA R 1) (vL P gs.length O))):=λhc=>by
   subst hc;have hs:=IE r I.o.ok.fz;exact A.o.fs HNF.o (by have:=f.size;have:=j.size;omega) hs.1 hs.2
  clear W F r hH;refine G9 k ⟨C1.o.cell 0,C1.o.cell 1⟩ λhH=>?_;clear k K;refine y_ 7 ?_;refine y_ 8 ?_;refine y_ 9 ?_;refine y_ 10 ?_;refine y_ 11 ?_;have J:=A.o.cr.cell 1;have q2:=A.o.cr.opn 1;simp only[gz]at J;refine rq 12 λK k=>?_;go_simp;have C2:=C1.o.on (u_ w1 R 1 (vL P gs.length O)) (λe=>absurd (N8 (I_ C1.o) (e▸I_ A.o.cr)) U5);clear hH;refine G9 k ⟨C2.cell 0,C2.cell 1⟩ λhH=>?_;clear k K J q2 C2;refine sq ?_;refine wdn ?_;clear hH C1 Z o A;by_cases hc:cd=0
  ·subst hc;have d:=U0 (C.o.trans (D8 rfl));clear C;go_wp2;go_ret;exact⟨⟨by rw[d.o];rfl,λm' c=>by rw[d.o]at c;cases c;exact⟨_,_,_,_,_,_,_,_,l.o J4⟩⟩,B1.o.setCell hR _⟩
  have hc':(cd==0)=false:=by simpa using hc
  have d:=U0 (C.o.trans (U7 hc));clear C l;go_wp2;go_ret;exact⟨⟨by rw[d.o];rfl,λm' c=>by rw[d.o]at c;cases c⟩,B1.o.setCell hR _⟩
 ·have h0:=jZ;have h1:=vY;have h2:=ZX;have f1:=E 1;clear E;show Calls prog 164 #[_,.iface 308 (Sb a)] w _;have HFZ:Hid (∀i,(m.fs.getD i T.o9).le 1048576):=λi=>⟨X7 (I.o.ok.fz i).1 U5,X7 (I.o.ok.fz i).2 U5⟩
  go_in
  go_upto_region 13 with fail
  go_wp2_with fail
  refine(T.a6b fa fc m.fs a w (by have:=I.o.ok.fl;omega) HFZ.o I.o.nf.1).mono ?_;rintro e w1⟨⟨P,O,cd,gs,rfl,W,r⟩,F⟩;have A:=U0 (I.o.below F);have HNF:=U0 W;have J:=A.o.cr.cell 1;have q2:=A.o.cr.opn 1;simp only[gz]at J;have B1:=U0 (F.mono X);have C:Hid (dn m (Oc a)=if cd=0 then some ⟨m.ep,gs,m.s⟩ else none):=by
   show _=_;by_cases hc:cd=0
   ·subst hc;rw[D8 rfl,vX,a0s r];rfl
   rw[U7 hc,vX,a0r r hc];rfl
  have l:Hid (cd=0->oJ b0 R ⟨m.ep,gs,m.s⟩ P O H B bT bR bP rv (w1.setCell (aA R 1) (vL P gs.length O))):=λhc=>by
   subst hc;have hs:=lC r I.o.ok.fz;exact A.o.fs HNF.o X hs.1 hs.2
  clear W F r V U N f1;by_cases hc:cd=0
  ·subst hc;have d:=U0 (C.o.trans (D8 rfl));clear C;go_wp2;go_ret;exact⟨⟨by rw[d.o];rfl,λm' c=>by rw[d.o]at c;cases c;exact⟨_,_,_,_,_,_,_,_,l.o J4⟩⟩,B1.o.setCell hR _⟩
  have hc':(cd==0)=false:=by simpa using hc
  have d:=U0 (C.o.trans (U7 hc));clear C l;go_wp2;go_ret;exact⟨⟨by rw[d.o];rfl,λm' c=>by rw[d.o]at c;cases c⟩,B1.o.setCell hR _⟩
 ·have h0:=FX;have h1:=eY;have h2:=OW;have h3:=ZY;clear E;show Calls prog 164 #[_,.iface 310 (.agg #[Sb km.nm,Sb km.tl,Sb km.ar,Sa v ls.length L,Sc Se c,Sb t])] w _;have HXL:=U0 hxl;have HLK:Hid (O9 w v ls):=HLK.o;have Y:=U0 (jB (m:=km) (ls:=ls) (c:=c) (t:=t) I.o.ok.st);have HSK:=U0 (dM (m:=km) (ls:=ls) (c:=c) (t:=t) I.o.ok.st);have HD4:Hid (dn m (Xg km ls c t)=_):=a3f;clear hxl
  go_in
  go_upto_region 16 with fail
  obtain⟨y,g⟩:∃q:World,q=w.alloc (Sg #[vS km.nm,vS km.tl,vS km.ar,vL v ls.length L,vI c,vS t] 310):=⟨_,rfl⟩;have f:Bw w y:=by rw[g];exact U6
  have o:Hid (Cl y w.heap.size 310 [vS km.nm,vS km.tl,vS km.ar,vL v ls.length L,vI c,vS t]):=by show Cl _ _ _ _;rw[g];exact I4 w [_,_,_,_,_,_] 310
  rw[<- g];have Q:=U0 (I.o.below f);clear g V U N;have HS:Hid (∀u,Bw y u->u.cell? (aA R 2)=some (Sd (some (aA H 0)))/\u.cell? (aW w 0)=some (vS km.nm)/\u.cell? (aW w 1)=some (vS km.tl)/\u.cell? (aW w 2)=some (vS km.ar)/\u.cell? (aW w 3)=some (vL v ls.length L)/\u.cell? (aW w 4)=some (vI c)/\u.cell? (aW w 5)=some (vS t)):=λu hu=>by
   have h1:=Q.o.cr.below hu Q.o.cr.lt;have h2:=o.o.below hu o.o.lt;exact⟨h1.cell 2,h2.cell 0,h2.cell 1,h2.cell 2,h2.cell 3,h2.cell 4,h2.cell 5⟩
  have j:Bw y y.drew:=(O4 _ _).drew;refine mG HS j Y0 λhH=>?_
  iterate 10 refine sq ?_
  have z:=U0 (Q.o.below j);have LD:=U0 (Q7 (Q7 HLK.o f) j);have hgs:∀i,(m.s.rs.getD i d_).gs.length<=1048576:=λi=>X7 (yM I.o.ok.st i) U5;have HC:=U0 (a4G B H bT bR bP m.s.wd m.s.ts m.s.rs rv km ls c t v L y.drew z.o.sh I.o.ok.st.1 (Vr I.o.ok.st) I.o.ok.st.2.1.1 I.o.ok.st.2.2.1 hgs HXL.o.2.2.1 HXL.o.2.2.2.1.1 HXL.o.2.2.2.1.2 HXL.o.2.2.2.2 LD.o);clear hgs;refine rq 10 λK k=>?_;go_simp;refine HC.o.mono ?_;rintro e w1⟨⟨rfl,hKS⟩,hbB,hKF⟩;have BD:=U0 (((f.mono X).trans (j.mono (by have:=f.size;omega))).trans (hbB.mono I.o.hB));have CR1:Hid (Cl w1 R 241 [vI m.ep,vL fa m.fs.length fc,Sd (some (aA H 0))]):=(hKF R 241 (I_ z.o.cr) U5).trans z.o.cr;have D:=(hKF w.heap.size 310 (I_ (o.o.below j o.o.lt)) U5).trans (o.o.below j o.o.lt);have D:Cl w1 w.heap.size 310 [vS km.nm,vS km.tl,vS km.ar,vL v ls.length L,vI c,vS t]:=D;have NF1:=U0 (eu z.o.nf hbB.size (λq hq=>hKF q 169 hq U5) (Y7 b0));have HKS:=U0 hKS;have hH1:=CR1.o.cell 2;clear HC hKS hKF hbB hH;refine G9 k ⟨hH1,D.cell 0,D.cell 1,D.cell 2,D.cell 3,D.cell 4,D.cell 5⟩ λhH=>?_;clear k K hH1 D;refine sq ?_;refine wdn ?_;clear hH HS o Q z LD;obtain⟨cd,hcd⟩:∃cd,cd=v_ m.s.wd m.s.ts m.s.rs km ls c t:=⟨_,rfl⟩;rw[<- hcd]at Y HSK HKS ⊢;clear hcd;by_cases hc:cd=0
  ·subst hc;have d:Hid (dn m (Xg km ls c t)=some ⟨m.ep,m.fs,⟨m.s.wd,(I8 m.s.wd (Xm ls c t) (m.s.ts,true)).1,Zg m.s.rs (Ui m.s.wd km ls c t)⟩⟩):=by
    have h:=HD4.o;rw[Y.o.1 rfl]at h;exact h.trans (D8 rfl)
   obtain⟨rv1,hs1⟩:=HKS.o rfl;have IF:Hid (ImM b0 R ⟨m.ep,m.fs,⟨m.s.wd,(I8 m.s.wd (Xm ls c t) (m.s.ts,true)).1,Zg m.s.rs (Ui m.s.wd km ls c t)⟩⟩ w1):=⟨_,_,_,_,_,_,_,_,⟨⟨e0,e1,I.o.ok.fl,I.o.ok.fz,HSK.o rfl⟩,CR1.o,NF1.o,hs1,I.o.hB,hR⟩⟩;clear hs1 HKS Y HSK HD4;go_wp2;go_ret;exact⟨⟨by rw[d.o];rfl,λm' c=>by rw[d.o]at c;cases c;exact IF.o⟩,BD.o⟩
  have hc':(cd==0)=false:=by simpa using hc
  have d:Hid (dn m (Xg km ls c t)=none):=by
   have h:=HD4.o;rw[Y.o.2 hc]at h;exact h.trans (U7 hc)
  clear HKS Y HSK HD4;go_wp2;go_ret;exact⟨⟨by rw[d.o];rfl,λm' c=>by rw[d.o]at c;cases c⟩,BD.o⟩
 have h0:=gX;have h1:=VX;have h2:=wX;have h3:=iW;have h4:=RY;have f2:=E 2;clear E;show Calls prog 164 #[_,.iface 313 (.agg #[])] w _;have d:Hid (dn m Ua=_):=a3E;obtain⟨pl,hC,_⟩:=I.o.sh;have hw0:=hC.blk 0 _ rfl;have hHl:=hC.lt;clear hC
 go_in
 go_upto_region 19 with fail
 obtain⟨y,g⟩:∃q:World,q=w.alloc (Sg #[] 313):=⟨_,rfl⟩;have f:Bw w y:=by rw[g];exact U6
 rw[<- g];have q2:=(f.cell (by exact hRl)).trans N;have q0:=(f.cell (by exact hHl)).trans hw0;have Q:=U0 (I.o.below f);have hys:=f.size;clear g V U N f2 hw0
 go_wp2_with fail
 refine(c162 ⟨m.s.wd,[],[]⟩ none none 0 0 y (Au I.o.ok.st.1) (pU (Au I.o.ok.st.1)) ⟨.inl rfl,.inl rfl⟩ (S9 hmx f)).mono ?_;rintro e w2⟨⟨H',bT',bR',bP',rv',rfl,hs⟩,hb2⟩;have l:=U0 (Q.o.below hb2);have I3:=U0 (l.o.ts (s':=⟨m.s.wd,[],[]⟩) hs O0 (Au I.o.ok.st.1));have p2:=l.o.cr.cell 2;have pf:=l.o.cr.opn 2;simp only[gz]at p2;have B2:=U0 ((f.mono X).trans (hb2.mono O0));clear hs hb2 q2 q0;go_wp2;go_ret;exact⟨⟨by rw[d.o];rfl,λm' c=>by rw[d.o]at c;cases c;exact⟨_,_,_,_,_,_,_,_,I3.o⟩⟩,B2.o.setCell hR _⟩
end Go.Proofs.YtdgneicbmalnpaaGreatDoor
namespace Go.Proofs.YtdgneicbmalnpaaGreatDoor
open Proofs.Tryz Go.RowKit
variable{w w':World}{b:Nat}{m:MS}{vs:List Value}{es:LB}{W cd:Int}
def MeO(w:World)(b:Nat)(m:MS)(vs:List Value):Prop:=MOk m/\∃fa fc ta tc ra rc,vs=[Sc Se 0,Sc Se m.ep,Sa fa m.fs.length fc,Sc Se m.s.wd,Sa ta m.s.ts.length tc,Sa ra m.s.rs.length rc]/\T.Wn b w fa m.fs/\W_ w b m.s.ts m.s.rs (Sa ta m.s.ts.length tc) (Sa ra m.s.rs.length rc)
def Rp7(w:World)(es:LB)(W:Int)(e:Ending)(w':World):Prop:=∃vs,e=.returned (.agg vs.toArray)/\((¬Dz es W/\vs=[Sc Se 1,Sc Se 0,Sa none 0 0,Sc Se 0,Sa none 0 0,Sa none 0 0])\/(Dz es W/\∃o,KI RE es (m00 W) o/\((o=none/\vs=[Sc Se 2,Sc Se 0,Sa none 0 0,Sc Se 0,Sa none 0 0,Sa none 0 0])\/∃m,o=some m/\MeO w' w.heap.size m vs)))
theorem MeO.keep{b':Nat}(h:MeO w b m vs)(hs:w.heap.size<=w'.heap.size)(hk:∀q t,oh w q t->t≠111->w'.heap[q]?=w.heap[q]?)(a:b'<=b):MeO w' b' m vs:=by
 obtain⟨h0,fa,fc,ta,tc,ra,rc,h1,h2,d⟩:=h;exact⟨h0,fa,fc,ta,tc,ra,rc,h1,eu h2 hs (λq c=>hk q 169 c U5) a,Ij (su d (λq t hT ht=>hk q t hT (by rcases ht with rfl|rfl|rfl<;>decide))) a⟩
theorem ZQ{u z:World}{a:Array Value}(hc:Cl u w.heap.size 111 [Sc Se 0,Sc Se 0,Sa none 0 0,Sc Se 0,Sa none 0 0,Sa none 0 0])(g:Cl z w.heap.size 111 vs)(b:Jr w.heap.size u z)(d:Bw w u)(hl:vs.length=6)(c:a.getD 4 undef=Sd (some ⟨w.heap.size,0,none⟩))(f:∀z:World,u.heap.size<=z.heap.size->(∀q t,oh u q t->t≠111->z.heap[q]?=u.heap[q]?)->Rp7 w es W (.returned (.agg vs.toArray)) z):bodyPost prog f121 (λe w'=>Rp7 w es W e w'/\Bw w w') .ret ⟨a,[]⟩ z:=
 P7 (v:=.agg vs.toArray) (l7 (P:=prog) (ty:=111) rfl a z w.heap.size vs _ c g.blk underlying111 rfl (by rw[hl];kernel_rfl)) rfl ⟨f z (Vf b.size.symm) (λq t hT ht=>b.block q (λe=>ht (N8 (e▸hT) (I_ hc)))),d.trans (b.below A8)⟩
theorem a3q(a:OA)(cap:Nat)(es:LB)(W:Int)(w:World)(hl:es.length<=1048576)(hs:∀i,(es.getD i ByteArray.empty).size<=1048576)(hat:J8 w a es)(hmx:Vd w):
 Calls prog 121 #[Sa a es.length cap,Sc Se W] w λe w'=>Rp7 w es W e w'/\Bw w w':=by
 have HAT:=U0 hat;have HSZ:=U0 hs;have HMX:=U0 hmx;clear hat hs hmx
 go_in
 go_upto_region 1 with fail
 obtain⟨V,hV⟩:∃V:World,V=w.alloc (Sg #[vO,vO,vN,vO,vN,vN] 111):=⟨_,rfl⟩;rw[<- hV];have N:Bw w V:=by rw[hV];exact U6
 have q:Hid (Cl V w.heap.size 111 [vO,vO,vN,vO,vN,vN]):=by show Cl _ _ _ _;rw[hV];exact I4 w [vO,vO,vN,vO,vN,vN] 111
 have hz:V.heap.size=w.heap.size+1:=by rw[hV];simp
 have HZ:=U0 hz;clear hV hz;have A:Hid (∀v∈([vI 1,vO,vN,vO,vN,vN]:List Value),v.oneCell'=true):=Nh rfl rfl rfl rfl rfl rfl;by_cases hw:1<=W/\W<=8;rotate_left
 ·have HBD:Hid (¬Dz es W):=λh=>hw h.1;have hd:=j_ hw
  go_wp2_with fail
  refine(JY W V).mono ?_;rintro e V1⟨rfl,X⟩;obtain rfl:=X.symm;rw[hd]
  go_wp2_with(refine N7 rfl 111 _ _ rfl (j:=0) rfl rfl q.o A8 A.o Y0 ?_;intro z g d)
  exact ZQ q g d N rfl rfl (λz _ _=>⟨_,rfl,.inl ⟨HBD,rfl⟩⟩)
 have hd:=X_ hw
 go_wp2_with fail
 refine(JY W V).mono ?_;rintro e V1⟨rfl,X⟩;obtain rfl:=X.symm;rw[hd];by_cases hbig:1000<es.length
 ·have HBD:Hid (¬Dz es W):=λh=>by have:=h.2;omega
  have c:(1000:Int)<es.length:=O0
  go_wp2_with(refine N7 rfl 111 _ _ rfl (j:=0) rfl rfl q.o A8 A.o Y0 ?_;intro z g d)
  exact ZQ q g d N rfl rfl (λz _ _=>⟨_,rfl,.inl ⟨HBD,rfl⟩⟩)
 have c:¬(1000:Int)<es.length:=O0;have HIN:Hid (Dz es W):=⟨hw,O0⟩
 go_upto_region 3 with fail
 go_wp2_with fail
 refine(c162 ⟨W,[],[]⟩ none none 0 0 V (Au hw) (pU (Au hw)) ⟨.inl rfl,.inl rfl⟩ (S9 HMX N)).mono ?_;rintro e y⟨⟨H,bT,bR,bP,rv,rfl,hsh⟩,o⟩;have HSH:=U0 hsh;have b2:=E5 N o;have r:=U0 (q.o.below o q.o.lt);have hV2:w.heap.size+1<=y.heap.size:=by have:=o.size;have:=HZ.o;omega
 have HVB:=U0 (Vf HZ.o.symm);clear hsh o q hd
 go_upto_region 4 with fail
 obtain⟨U,L⟩:∃U:World,U=y.alloc (Sg #[vO,vN,Sd (some (aA H 0))] 241):=⟨_,rfl⟩;rw[<- L];have O:Bw y U:=by rw[L];exact U6
 have HI:Hid (ImM (w.heap.size+1) y.heap.size (m00 W) U):=by
  refine⟨none,0,H,V.heap.size,bT,bR,bP,rv,a2p hw,?_,⟨.inl rfl,.inl rfl⟩,HSH.o.below' O,HVB,hV2⟩;rw[L];exact I4 y [_,_,_] 241
 have CU:=U0 (r.o.below O r.o.lt);have HB:=U0 (E5 b2 O);clear L O r b2 HSH c;generalize y.heap.size=R at*;go_wp2;go_loopw[25] (λi wr=>∃(k:Nat)(f:Nat->z_)(m:MS),i=Sc Se k/\k<=es.length/\Hid (∀j,j<k->RE (eL es j) (f j) true)/\Hid (rn f (m00 W) k=some m)/\Hid (Below w.heap.size w wr)/\Hid (Cl wr w.heap.size 111 [Sc Se 0,Sc Se 0,Sa none 0 0,Sc Se 0,Sa none 0 0,Sa none 0 0])/\Hid (ImM (w.heap.size+1) R m wr)) (λi _=>es.length-(RowKit.intOf i).toNat);exact⟨0,λ_=>Fj,_,rfl,Y4 _,λj h=>absurd h (U8 _),rfl,HB,CU,HI⟩;obtain⟨k,f,m,rfl,hk,E,D,I,F,P⟩:=hrel;clear HI CU HB;by_cases J:k<es.length;rotate_left
 ·obtain rfl:k=es.length:=O0;obtain⟨fa,fc,H1,t,bT1,bR1,bP1,rv1,C⟩:=P.o;have Y:Bw wr wr.drew:=(O4 _ _).drew;have n:=U0 (C.below Y);have CD:=U0 (F.o.below Y F.o.lt);have BD:=U0 (E5 I Y);clear C P
  go_upto_region 11 with fail
  refine wp_region_held_drew (S:=λu=>u.cell? (aA R 0)=some (vI m.ep)/\u.cell? (aA R 1)=some (vL fa m.fs.length fc)/\u.cell? (aA R 2)=some (Sd (some (aA H1 0)))) Y0 ⟨n.o.cr.cell 0,n.o.cr.cell 1,n.o.cr.cell 2⟩ λhH=>?_
  iterate 6 refine sq ?_
  have a7M:=U0 (a5N t H1 bT1 bR1 bP1 m.s.wd m.s.ts m.s.rs rv1 wr.drew n.o.sh n.o.ok.st.1 (X7 n.o.ok.st.2.1.1 U5) (X7 n.o.ok.st.2.2.1 U5) (λi=>X7 (yM n.o.ok.st i) U5));refine rq 6 λK B=>?_;go_simp;refine a7M.o.mono ?_;rintro e w1⟨⟨ta,tc,ra,rc,rfl,hso⟩,c⟩;have l:=U0 (n.o.below c);have p:=U0 (CD.o.below c CD.o.lt);have B1w:=U0 (E5 BD c);have HSO:=U0 hso;clear a7M hso c hH;refine G9 B ⟨l.o.cr.cell 0,l.o.cr.cell 1,l.o.cr.cell 2⟩ λhH=>?_;clear B K;refine sq ?_;refine rq 8 λK B=>?_;refine qc rfl 111 _ _ rfl (j:=0) rfl rfl p A8 (Nh rfl rfl rfl rfl rfl rfl) Y0 ?_;intro z g d;have CZ:=U0 g;have OZ:=U0 d;have hRR:R≠w.heap.size:=by have:=l.o.hR;omega
  have c3:=l.o.cr.on d hRR;clear hH g d;refine G9 B ⟨c3.cell 0,c3.cell 1,c3.cell 2⟩ λhH=>?_;clear B K c3;refine wdn ?_;clear hH
  go_wp2_with fail
  have HME:Hid (MeO w1 w.heap.size m [vO,vI m.ep,vL fa m.fs.length fc,vI m.s.wd,vL ta m.s.ts.length tc,vL ra m.s.rs.length rc]):=⟨l.o.ok,fa,fc,ta,tc,ra,rc,rfl,eu l.o.nf A8 (λ_ _=>rfl) O0,Ij HSO BD.o.size⟩;exact ZQ p CZ OZ B1w rfl rfl (λz hz1 hz2=>⟨_,rfl,.inr ⟨HIN,_,pR E D,.inr ⟨m,rfl,HME.o.keep hz1 hz2 A8⟩⟩⟩)
 obtain⟨b,off,hst⟩:=Aa (G6 HAT.o I.o);obtain⟨rfl,hbw,hce⟩:=Ud hst J;have hc0:=hce k J;clear hce;have HRD:=U0 (a5c (es.getD k ByteArray.empty) wr (HSZ k) (S9 HMX I));have HEL:Hid ((es.getD k ByteArray.empty).data.toList=eL es k):=rfl;generalize es.getD k ByteArray.empty=s at*
 go_upto_region 7 with fail
 go_wp2_with fail
 refine HRD.o.mono ?_;rintro e w1⟨hx,c⟩;rw[HEL.o]at hx;obtain⟨fa,fc,H1,t,bT1,bR1,bP1,rv1,C⟩:=P.o;have l:=U0 (C.below c);have t:=U0 (E5 I c);have p:=U0 (F.o.below c F.o.lt);clear HRD C P hc0 F I c;rcases hx with⟨rfl,hz⟩|⟨x,ai,ci,rfl,hx,_,hxl,hlk⟩
 ·have HBAD:=U0 (hz Fj);have A:Hid (∀v∈([vI 2,vO,vN,vO,vN,vN]:List Value),v.oneCell'=true):=Nh rfl rfl rfl rfl rfl rfl;clear hz
  go_wp2_with(refine N7 rfl 111 _ _ rfl (j:=0) rfl rfl p.o A8 A.o Y0 ?_;intro z g d)
  exact ZQ p g d t rfl rfl (λz _ _=>⟨_,rfl,.inr ⟨HIN,_,VZ J E D HBAD,.inl ⟨rfl,rfl⟩⟩⟩)
 have Z:=U0 hx;have HCD:=U0 (c164 (w.heap.size+1) R m x ai ci w1 ⟨_,_,_,_,_,_,_,_,l⟩ (X7 (Nat.succ_le_of_lt p.o.lt) A8) (S9 HMX t) (hx.1 rfl).1 hxl hlk.at');clear hx hxl hlk;generalize kW x ai ci=xv at*
 go_upto_region 8 with fail
 go_wp2_with fail
 refine HCD.o.mono ?_;rintro e w2⟨⟨rfl,hm2⟩,o⟩;have HM2:=U0 hm2;have r:=U0 (p.o.below o O0);have B2:=U0 (t.o.trans (o.mono O0));clear HCD hm2 o p t l
 cases hd:dn m x with
 | none=>
  have Q:=U0 hd;have A:Hid (∀v∈([vI 2,vO,vN,vO,vN,vN]:List Value),v.oneCell'=true):=Nh rfl rfl rfl rfl rfl rfl;clear hd HM2
  go_wp2_with(refine N7 rfl 111 _ _ rfl (j:=0) rfl rfl r.o A8 A.o Y0 ?_;intro z g d)
  exact ZQ r g d B2 rfl rfl (λz _ _=>⟨_,rfl,.inr ⟨HIN,_,dQ J E D Z Q,.inl ⟨rfl,rfl⟩⟩⟩)
 | some m'=>
  have Q:=U0 hd;have HMM:=U0 (HM2.o m' hd);clear hd HM2;go_wp2;go_roundw;exact⟨k+1,upd f k x,m',by go_num,O0,(Sz E.o D.o Z.o Q.o).1,(Sz E.o D.o Z.o Q.o).2,B2,r,HMM⟩;exact V9
structure Sml(m:MS):Prop where
 fl:m.fs.length<=40
 tl:m.s.ts.length<=300
 rl:m.s.rs.length<=150
 gl:∀i,(m.s.rs.getD i d_).gs.length<=1000
 gz:WB m.s.rs<=150000
def Rd(w:World)(cd:Int)(m:MS)(vs:List Value):Prop:=∃fa fc ta tc ra rc,vs=[Sc Se cd,Sc Se m.ep,Sa fa m.fs.length fc,Sc Se m.s.wd,Sa ta m.s.ts.length tc,Sa ra m.s.rs.length rc]/\T.P6 w fa m.fs/\xh w ta ra m.s
def Me(w:World)(b:Nat)(cd:Int)(m:MS)(vs:List Value):Prop:=∃fa fc ta tc ra rc,vs=[Sc Se cd,Sc Se m.ep,Sa fa m.fs.length fc,Sc Se m.s.wd,Sa ta m.s.ts.length tc,Sa ra m.s.rs.length rc]/\T.Wn b w fa m.fs/\W_ w b m.s.ts m.s.rs (Sa ta m.s.ts.length tc) (Sa ra m.s.rs.length rc)
def mzz:MS:=⟨0,[],⟨0,[],[]⟩⟩
def Out(R:List UInt8->z_->Bool->Prop)(es:LB)(W:Int)(cd:Int)(m:MS):Prop:=Sml m/\((¬Dz es W/\cd=1/\m=mzz)\/(Dz es W/\∃o,KI R es (m00 W) o/\((o=none/\cd=2/\m=mzz)\/(o=some m/\cd=0))))
theorem sZ{c:Int}{m':MS}(h:Out RES es W cd m)(a:Out RE es W c m'):c=cd/\m'=m:=by
 obtain⟨_,h⟩:=h;obtain⟨_,a⟩:=a;rcases h with⟨h1,rfl,rfl⟩|⟨h1,o,h2,e⟩
 ·rcases a with⟨_,rfl,rfl⟩|⟨k,_⟩
  ·exact⟨rfl,rfl⟩
  exact absurd k h1
 rcases a with⟨k,_⟩|⟨_,o',d,b⟩
 ·exact absurd h1 k
 have:=a1Z h2 d;subst this;rcases e with⟨rfl,rfl,rfl⟩|⟨rfl,rfl⟩
 ·rcases b with⟨_,rfl,rfl⟩|⟨k,_⟩
  ·exact⟨rfl,rfl⟩
  cases k
 rcases b with⟨k,_⟩|⟨k,rfl⟩
 ·cases k
 exact⟨rfl,(C_ k).symm⟩
theorem a0x(rs:List R3)(h:∀x∈rs,x.gs.length<=1000):WB rs<=rs.length*1000:=by
 induction rs with
 | nil=>decide
 | cons x r ih=>
  have:=ih (λy a=>h y (Ug _ a));have hx:=h x (Gt ..);unfold WB at this ⊢;simp only[Xq,List.sum_cons,f_];omega
theorem wR(h:MOk m):Sml m:=by
 have h1:=h.st.2.1.1;have h2:=h.st.2.2.1;have a:=yM h.st;refine⟨h.fl,h1,h2,a,X7 (a0x _ (λx hx=>?_)) O0⟩;obtain⟨i,b,rfl⟩:=Qe hx;have:=a i
 rwa[show m.s.rs.getD i d_=m.s.rs[i] from by simp[List.getD,b]]at this
theorem KL:Sml mzz:=⟨U5,U5,U5,λi=>by show(0:Nat)<=1000;omega,U5⟩
theorem a3r(w:World)(b:Nat)(cd:Int):Me w b cd mzz [Sc Se cd,Sc Se 0,Sa none 0 0,Sc Se 0,Sa none 0 0,Sa none 0 0]:=⟨none,0,none,0,none,0,rfl,⟨.inl rfl,.inl rfl⟩,Xr _ _⟩
theorem Me.rd(h:Me w b cd m vs):Rd w cd m vs:=by
 obtain⟨fa,fc,ta,tc,ra,rc,h1,h2,a⟩:=h;exact⟨fa,fc,ta,tc,ra,rc,h1,h2.1,Wv a⟩
theorem Rd.below(h:Rd w cd m vs)(a:Bw w w'):Rd w' cd m vs:=by
 obtain⟨fa,fc,ta,tc,ra,rc,h1,h2,b⟩:=h;exact⟨fa,fc,ta,tc,ra,rc,h1,T.J5 h2 a,b.below a⟩
theorem Me.keep(h:Me w b cd m vs)(hs:w.heap.size<=w'.heap.size)(hk:∀q,b<=q->q<w.heap.size->w'.heap[q]?=w.heap[q]?):Me w' b cd m vs:=by
 obtain⟨fa,fc,ta,tc,ra,rc,h1,h2,a⟩:=h;refine⟨fa,fc,ta,tc,ra,rc,h1,?_,a.keep hk⟩;obtain⟨hf,h⟩:=h2;rcases h with h0|⟨g,rfl,c,ho,ht⟩
 ·exact⟨.inl h0,.inl h0⟩
 have e:=hk g c ho.1;refine⟨?_,.inr ⟨g,rfl,c,⟨P9 ho.1 hs,λj d=>by rw[yg e];exact ho.2.1 j d,λj=>by rw[aF e];exact ho.2.2 j⟩,?_⟩⟩
 ·rcases hf with h0|⟨b,off,h1,h2,a⟩
  ·exact .inl h0
  injection h1 with h1;injection h1 with h1 h4;subst h1 h4;exact .inr ⟨g,0,rfl,P9 h2 hs,λi f=>by rw[yg e,yg e];exact a i f⟩
 obtain⟨cur,hc⟩:=ht;exact⟨cur,e.trans hc⟩
theorem a3Z(a:OA)(cap:Nat)(es:LB)(W:Int)(w:World)(hl:es.length<=1048576)(hs:∀i,(es.getD i ByteArray.empty).size<=1048576)(f:J8 w a es)(c:Vd w):
 Calls prog 121 #[Sa a es.length cap,Sc Se W] w λe w'=>(∃cd m vs,e=.returned (.agg vs.toArray)/\Out RE es W cd m/\Me w' w.heap.size cd m vs)/\Bw w w':=by
 refine(a3q a cap es W w hl hs f c).mono ?_;rintro e w'⟨⟨vs,rfl,h⟩,d⟩;refine⟨?_,d⟩;rcases h with⟨h1,rfl⟩|⟨h1,o,h2,b⟩
 ·exact⟨1,mzz,_,rfl,⟨KL,.inl ⟨h1,rfl,rfl⟩⟩,a3r _ _ _⟩
 rcases b with⟨rfl,rfl⟩|⟨m,rfl,b⟩
 ·exact⟨2,mzz,_,rfl,⟨KL,.inr ⟨h1,_,h2,.inl ⟨rfl,rfl,rfl⟩⟩⟩,a3r _ _ _⟩
 obtain⟨h0,g⟩:=b;exact⟨0,m,_,rfl,⟨wR h0,.inr ⟨h1,_,h2,.inr ⟨rfl,rfl⟩⟩⟩,g⟩
def Rem(b:Bs)(m:MS):Prop:=1<=b.ep/\b.ep=m.ep/\b.fs=m.fs/\b.s=m.s
theorem a3T(h:Sml m):m.s.ts.length<=1048576/\m.s.rs.length<=1048576/\∀i,(m.s.rs.getD i d_).gs.length<=1048576:=⟨X7 h.tl U5,X7 h.rl U5,λi=>X7 (h.gl i) U5⟩
theorem c124(b:Bs)(q:Ba)(cd:Int)(m:MS)(fa ta ra:OA)(fc tc rc:Nat)(w:World)(hl:lg b 1048576)(hm:Sml m)(z:jh w b q)(hf:T.P6 w fa m.fs)(hs:xh w ta ra m.s):
 Calls prog 124 #[.agg (bsV b q).toArray,.agg #[Sc Se cd,Sc Se m.ep,Sa fa m.fs.length fc,Sc Se m.s.wd,Sa ta m.s.ts.length tc,Sa ra m.s.rs.length rc]] w λe w'=>Rb (Rem b m) e/\Bw w w':=by
 have F:=U0 z;have E:=U0 hl;have D:=U0 hm;have J:=U0 hf;have I:=U0 hs;clear z hl hm hf hs
 go_in
 go_upto_region 1 with fail
 have d:=U0 (E8 (I4 w (bsV b q) 47) (Sg #[vI cd,vI m.ep,vL fa m.fs.length fc,vI m.s.wd,vL ta m.s.ts.length tc,vL ra m.s.rs.length rc] 111));have c:Hid (Cl ((w.alloc (Sg (bsV b q).toArray 47)).alloc (Sg #[vI cd,vI m.ep,vL fa m.fs.length fc,vI m.s.wd,vL ta m.s.ts.length tc,vL ra m.s.rs.length rc] 111)) (w.heap.size+1) 111 [vI cd,vI m.ep,vL fa m.fs.length fc,vI m.s.wd,vL ta m.s.ts.length tc,vL ra m.s.rs.length rc]):=by show Cl _ _ _ _;have h:=I4 (w.alloc (Sg (bsV b q).toArray 47)) [vI cd,vI m.ep,vL fa m.fs.length fc,vI m.s.wd,vL ta m.s.ts.length tc,vL ra m.s.rs.length rc] 111;simpa using h
 have f:Hid (Bw w ((w.alloc (Sg (bsV b q).toArray 47)).alloc (Sg #[vI cd,vI m.ep,vL fa m.fs.length fc,vI m.s.wd,vL ta m.s.ts.length tc,vL ra m.s.rs.length rc] 111))):=U6.alloc J4 _;generalize (w.alloc (Sg (bsV b q).toArray 47)).alloc (Sg #[vI cd,vI m.ep,vL fa m.fs.length fc,vI m.s.wd,vL ta m.s.ts.length tc,vL ra m.s.rs.length rc] 111)=V at*;have C:=d.o.cell 3;have B:=d.o.cell 7;have l:=d.o.cell 8;have k:=d.o.cell 9;have n:=d.o.cell 10;simp only[gz]at C B l k n;have t:=c.o.cell 1;have A:=c.o.cell 2;have j:=c.o.cell 3;have i:=c.o.cell 4;have g:=c.o.cell 5;simp only[gz]at t A j i g;by_cases h1:1<=b.ep;rotate_left
 ·have o:Hid (¬Rem b m):=λh=>h1 h.1;go_wp2;go_ret;exact⟨P5 o,f⟩
 by_cases h2:b.ep=m.ep;rotate_left
 ·have o:Hid (¬Rem b m):=λh=>h2 h.2.1;go_wp2;go_ret;exact⟨P5 o,f⟩
 rw[<- h2]at t
 go_wp2_with fail
 refine(a6j b.fs m.fs q.fa fa q.fc fc V E.o.fl (X7 D.o.fl U5) (T.J5 F.o.fs f) (T.J5 J f)).mono ?_;rintro e w1⟨⟨u,rfl,a⟩,p⟩;have x:=U0 (d.o.below p d.o.lt);have v:=U0 (c.o.below p c.o.lt);have r:=U0 (E5 f p);clear p C B l k n t A j i g d c f
 cases u with
 | false=>
  have o:Hid (¬Rem b m):=λh=>by have:=a.2 h.2.2.1;cases this
  clear a;go_wp2;go_ret;exact⟨P5 o,r⟩
 | true=>
 have H:=U0 (a.1 rfl);clear a;have l:=x.o.cell 8;have k:=x.o.cell 9;have n:=x.o.cell 10;simp only[gz]at l k n;have j:=v.o.cell 3;have i:=v.o.cell 4;have g:=v.o.cell 5;simp only[gz]at j i g
 go_wp2_with fail
 refine(c167 b.s m.s q.ta q.ra ta ra q.tc q.rc tc rc w1 (rX E.o.st) (a3T D) (F.o.st.below r) (I.o.below r)).mono ?_;rintro e w2⟨⟨u,rfl,a⟩,y⟩;have L:=U0 (E5 r y);have K:Hid (u=true↔Rem b m):=⟨λh=>⟨h1,h2,H,a.1 h⟩,λh=>a.2 h.2.2.2⟩;clear a y l k n j i g;go_wp2;go_ret;exact⟨⟨_,rfl,K⟩,L⟩
