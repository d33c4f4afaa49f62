import Derived.Test.YtdgneicbmalnpaaGreatDoorwE
import Derived.Test.YtdgneicbmalnpaaGreatDoorvW
import Derived.Test.YtdgneicbmalnpaaGreatDoorzE
set_option linter.all false
set_option maxHeartbeats 0
set_option maxRecDepth 99999
open Go.Value renaming slice->Sa,string->Sb,int->Sc,pointer->Sd
open Go.IntKind renaming i64->Se
open Go.Ending renaming returned->Sf
open Go.Obj renaming cells->Sg
namespace Go.Proofs.YtdgneicbmalnpaaGreatDoor
open Proofs.Tryz Go.RowKit
def JbI(b:Bs):Prop:=∀i,i<b.jb.length->(∀t,t<i->¬Gm (b.jb.getD i Ea) (b.jb.getD t Ea))/\pz b (b.jb.getD i Ea)
theorem XR{w:World}{b off k:Nat}{l:List Jb}(hk:k<=l.length)(hl:b<w.heap.size)(h:∀i,i<l.length->Bc w b (off+i*3) (Kq (l.getD i Ea))):Qj w (some ⟨b,off,none⟩) (l.take k):=.inr ⟨b,off,rfl,hl,λi a=>by
 have h1:i<l.length:=by simp at a;omega
 have h2:i<k:=by simp at a;omega
 have e:(l.take k).getD i Ea=l.getD i Ea:=by simp[List.getD,h1,h2]
 rw[e];exact h i h1⟩
theorem a5S(b:Bs)(q:Ba)(w:World)(hl:lg b 1048576)(hcp:b.jb.length<=q.jc)(hn1:0<=b.now)(hn2:b.now<=1000000)(z:jh w b q):
 Calls prog 128 #[.agg #[Sc Se b.wd,.bool b.up,Sc Se b.now,Sc Se b.ep,Sc Se b.ed,Sa q.sa b.sf.length q.sc,Sa q.la b.lo.length q.lc,Sa q.fa b.fs.length q.fc,Sc Se b.s.wd,Sa q.ta b.s.ts.length q.tc,Sa q.ra b.s.rs.length q.rc,Sa q.ha b.hd.length q.hc,Sa q.oa b.rt.length q.oc,Sa q.na b.rn.length q.nc,Sa q.ja b.jb.length q.jc]] w λe w'=>Rb (JbI b) e/\Bw w w':=by
 have HA:=U0 z;have HL0:=U0 hl;have hjl:=hl.jl;obtain⟨P,O,hc⟩:=Z_ z.jb;have HC:=U0 hc;clear z hl hc
 go_in
 go_upto_region 1 with fail
 have Z:=U0 (I4 w [vI b.wd,.bool b.up,vI b.now,vI b.ep,vI b.ed,vL q.sa b.sf.length q.sc,vL q.la b.lo.length q.lc,vL q.fa b.fs.length q.fc,vI b.s.wd,vL q.ta b.s.ts.length q.tc,vL q.ra b.s.rs.length q.rc,vL q.ha b.hd.length q.hc,vL q.oa b.rt.length q.oc,vL q.na b.rn.length q.nc,vL q.ja b.jb.length q.jc] 47);have B0:=U0 (U6 (w:=w) (o:=Sg #[vI b.wd,.bool b.up,vI b.now,vI b.ep,vI b.ed,vL q.sa b.sf.length q.sc,vL q.la b.lo.length q.lc,vL q.fa b.fs.length q.fc,vI b.s.wd,vL q.ta b.s.ts.length q.tc,vL q.ra b.s.rs.length q.rc,vL q.ha b.hd.length q.hc,vL q.oa b.rt.length q.oc,vL q.na b.rn.length q.nc,vL q.ja b.jb.length q.jc] 47));generalize w.alloc (Sg #[vI b.wd,.bool b.up,vI b.now,vI b.ep,vI b.ed,vL q.sa b.sf.length q.sc,vL q.la b.lo.length q.lc,vL q.fa b.fs.length q.fc,vI b.s.wd,vL q.ta b.s.ts.length q.tc,vL q.ra b.s.rs.length q.rc,vL q.ha b.hd.length q.hc,vL q.oa b.rt.length q.oc,vL q.na b.rn.length q.nc,vL q.ja b.jb.length q.jc] 47)=V0 at*;have a:=Z.o.cell 14;simp only[gz]at a;by_cases r:b.jb.length=0
 ·have F:Hid (JbI b):=λi p=>absurd p O0;rw[r]at a;go_wp2;go_loop[9] (λi=>i=Sc Se 0) (λ_=>0)
  case atStart=>rfl
  obtain rfl:=hrel;go_wp2;go_ret;exact⟨H_ F,B0⟩
 rcases HC.o with hss|⟨ha,x,Q⟩
 ·rw[hss]at r;exact absurd rfl r
 have n:Hid (∀u,Bw w u->∀t,t<b.jb.length->Bc u P (O+t*3) (Kq (b.jb.getD t Ea))):=λu hu t ht=>(Q t ht).below x hu;rw[ha]at a;have Y:=U0 ha;clear ha Q;go_wp2;go_loopw[9] (λi wr=>∃k:Nat,k<=b.jb.length/\i=Sc Se k/\Hid (∀i,i<k->(∀t,t<i->¬Gm (b.jb.getD i Ea) (b.jb.getD t Ea))/\pz b (b.jb.getD i Ea))/\Hid (Cl wr w.heap.size 47 [Sc Se b.wd,.bool b.up,Sc Se b.now,Sc Se b.ep,Sc Se b.ed,Sa q.sa b.sf.length q.sc,Sa q.la b.lo.length q.lc,Sa q.fa b.fs.length q.fc,Sc Se b.s.wd,Sa q.ta b.s.ts.length q.tc,Sa q.ra b.s.rs.length q.rc,Sa q.ha b.hd.length q.hc,Sa q.oa b.rt.length q.oc,Sa q.na b.rn.length q.nc,Sa q.ja b.jb.length q.jc])/\Below w.heap.size w wr) (λi _=>b.jb.length-(RowKit.intOf i).toNat);exact⟨0,Y4 _,rfl,λj h=>absurd h (U8 _),Z,B0.o⟩;obtain⟨k,hk,rfl,hd,J,R⟩:=hrel;have f:=U0 R;clear R;clear a;have a:=J.o.cell 14;simp only[gz]at a;rw[Y.o]at a;by_cases l:k<b.jb.length;rotate_left
 ·obtain rfl:k=b.jb.length:=O0;have F:Hid (JbI b):=hd.o;go_wp2;go_ret;exact⟨H_ F,f⟩
 have a7r:=P9 x f.o.size;have g0:=n.o wr f k l 0 _ rfl;have g1:=n.o wr f k l 1 _ rfl;have g2:=n.o wr f k l 2 _ rfl;dsimp only[Nat.add_zero]at g0;have W:Hid (¬((∀t,t<k->¬Gm (b.jb.getD k Ea) (b.jb.getD t Ea))/\pz b (b.jb.getD k Ea))->¬JbI b):=λd h=>d (h k l);have HD:Hid (((∀t,t<k->¬Gm (b.jb.getD k Ea) (b.jb.getD t Ea))/\pz b (b.jb.getD k Ea))->∀i,i<k+1->(∀t,t<i->¬Gm (b.jb.getD i Ea) (b.jb.getD t Ea))/\pz b (b.jb.getD i Ea)):=λd j hj=>by
  rcases Z7 j k with h|h
  ·exact hd j h
  obtain rfl:j=k:=O0;exact d
 have U:Hid (∀j:Jb,(∃i,i<(b.jb.take k).length/\Gm j ((b.jb.take k).getD i Ea))↔¬∀t,t<k->¬Gm j (b.jb.getD t Ea)):=λj=>by
  constructor
  ·rintro⟨i,p,h⟩ d;have h2:i<k:=by simp at p;omega
   have h1:i<b.jb.length:=O0;rw[show(b.jb.take k).getD i Ea=b.jb.getD i Ea by simp[List.getD,h1,h2]]at h;exact d i h2 h
  intro d;obtain⟨t,h⟩:=Classical.not_forall.1 d;obtain⟨h2,h⟩:=Classical.not_imp.1 h;have h1:t<b.jb.length:=O0;refine⟨t,L8,?_⟩;rw[show(b.jb.take k).getD t Ea=b.jb.getD t Ea by simp[List.getD,h1,h2]];exact EJ.1 h
 generalize b.jb.getD k Ea=j at*;clear hd
 go_upto_region 4 with fail
 have g:=U0 (I4 wr [vS j.nm,vI j.wk,vI j.un] 124);have BV:=U0 (U6 (w:=wr) (o:=Sg #[vS j.nm,vI j.wk,vI j.un] 124));generalize wr.alloc (Sg #[vS j.nm,vI j.wk,vI j.un] 124)=V at*;have L:=U0 (J.o.below BV J.o.lt);have H:=U0 (E5 f BV);clear g0 g1 g2 a;have a:=L.o.cell 14;simp only[gz]at a;have C:=g.o.cell 0;have A:=g.o.cell 1;simp only[gz]at C A;rw[Y.o]at a;have hkc:k<=q.jc:=O0;have v:=a4f (some (aA P O)) q.jc (b.jb.take k) j wr.heap.size V (by rw[Gq hk];omega) (XR hk (P9 x H.o.size) (n V H)) C A g.o.lt;rw[Gq hk]at v;have X:=U0 v;clear v
 go_wp2_with fail
 refine X.o.mono ?_;rintro e w1⟨⟨D,rfl,c⟩,m⟩;have K:=U0 (L.o.below m L.o.lt);have D2:=U0 (g.o.below m g.o.lt);have E:=U0 (E5 H m);clear m a C A X
 cases D with
 | true=>
  have I:=U0 (W.o (λh=>(U j).1 (by rw[Gq hk];exact c.1 rfl) h.1));clear c;go_wp2;go_ret;exact⟨P5 I,E⟩
 | false=>
 have HO:Hid (∀t,t<k->¬Gm j (b.jb.getD t Ea)):=by
  refine EJ.1 λh=>?_;have:=c.2 (by have N:=(U.o j).2 h;rw[Gq hk]at N;exact N);cases this
 clear c
 go_wp2_with(first|(refine Qx rfl 47 _ rfl (B:=w.heap.size) rfl K.o underlying47 rfl Y0 ?_)|(refine Qx rfl 124 _ rfl (B:=wr.heap.size) rfl D2.o underlying124 rfl Y0 ?_))
 refine(a5V b q j w1 HL0 hn1 hn2 (Jf HA.o.rn E)).mono ?_;rintro e w2⟨⟨D,rfl,c⟩,y⟩;have C3:=U0 (K.o.below y K.o.lt);have S:=U0 (E5 E y);clear y
 cases D with
 | false=>
  have I:=U0 (W.o (λh=>by have:=c.2 h.2;cases this));clear c;go_wp2;go_ret;exact⟨P5 I,S⟩
 | true=>
  have HD1:=U0 (HD.o ⟨HO,c.1 rfl⟩);clear c;go_wp2;go_roundw;exact⟨k+1,O0,by go_num,HD1,C3,S.o⟩;exact V9
theorem a3t{w:World}{b:Nat}{cd:Int}{m:MS}{fa ta ra:OA}{fc tc rc:Nat}(h:Me w b cd m [Sc Se cd,Sc Se m.ep,Sa fa m.fs.length fc,Sc Se m.s.wd,Sa ta m.s.ts.length tc,Sa ra m.s.rs.length rc]):Kp b w λu=>T.P6 u fa m.fs/\xh u ta ra m.s:=λu hs hk=>by
 obtain⟨_,_,_,_,_,_,e,c,a⟩:=(h.keep hs hk).rd;simp at e;obtain⟨⟨rfl,rfl⟩,⟨rfl,rfl⟩,rfl,rfl⟩:=e;exact⟨c,a⟩
theorem a3g(a:OA)(cap:Nat)(es:LB)(W:Int)(w:World)(hl:es.length<=1048576)(hs:∀i,(es.getD i ByteArray.empty).size<=1048576)(d:J8 w a es)(b:Vd w):
 Calls prog 121 #[Sa a es.length cap,Sc Se W] w λe w'=>(∃cd m fa fc ta tc ra rc,e=Sf (.agg #[Sc Se cd,Sc Se m.ep,Sa fa m.fs.length fc,Sc Se m.s.wd,Sa ta m.s.ts.length tc,Sa ra m.s.rs.length rc])/\Out RE es W cd m/\Kp w.heap.size w' λu=>T.P6 u fa m.fs/\xh u ta ra m.s)/\Bw w w':=by
 refine(a3Z a cap es W w hl hs d b).mono ?_;rintro e w'⟨⟨cd,m,vs,rfl,h1,h2⟩,c⟩;have f:=h2;obtain⟨fa,fc,ta,tc,ra,rc,rfl,_,_⟩:=h2;exact⟨⟨cd,m,fa,fc,ta,tc,ra,rc,rfl,h1,a3t f⟩,c⟩
theorem a4J(a:OA)(cap:Nat)(es:LB)(W:Int)(w:World)(hl:es.length<=1048576)(hs:∀i,(es.getD i ByteArray.empty).size<=1048576)(k:J8 w a es):
 Calls prog 61 #[Sa a es.length cap,Sc Se W] w λe w'=>(∃cd m fa fc ta tc ra rc,e=Sf (.agg #[Sc Se cd,Sc Se m.ep,Sa fa m.fs.length fc,Sc Se m.s.wd,Sa ta m.s.ts.length tc,Sa ra m.s.rs.length rc])/\Out RES es W cd m/\Kp w.heap.size w' λu=>T.P6 u fa m.fs/\xh u ta ra m.s)/\Bw w w':=by
 refine(c61 a cap es W w hl hs k).mono ?_;rintro e w'⟨⟨vs,rfl,h⟩,j⟩;refine⟨?_,j⟩;rcases h with⟨h1,rfl⟩|⟨h1,o,h2,c⟩
 ·exact⟨1,mzz,none,0,none,0,none,0,rfl,⟨KL,.inl ⟨h1,rfl,rfl⟩⟩,λu _ _=>⟨.inl rfl,.inl rfl,.inl rfl⟩⟩
 rcases c with⟨rfl,rfl⟩|⟨m,rfl,c⟩
 ·exact⟨2,mzz,none,0,none,0,none,0,rfl,⟨KL,.inr ⟨h1,_,h2,.inl ⟨rfl,rfl,rfl⟩⟩⟩,λu _ _=>⟨.inl rfl,.inl rfl,.inl rfl⟩⟩
 obtain⟨fv,tv,rv,rfl,b,d⟩:=c.ex;obtain⟨fa,fc,rfl,hf⟩:=Ur b;obtain⟨ta,tc,rfl⟩:=H9 d.1;have n:=d;obtain⟨_,vs0,g⟩:=d;obtain⟨ra,rc,rfl⟩:=H9 g.row;refine⟨0,m,fa,fc,ta,tc,ra,rc,rfl,⟨wR c.ok,.inr ⟨h1,_,h2,.inr ⟨rfl,rfl⟩⟩⟩,λu hs hk=>⟨?_,Wv (n.keep hk)⟩⟩;have l:=Z4 (u':=u) b (λq f=>hk q (X4 b f) (o_ b f));obtain⟨fa',fc',e,hf⟩:=Ur l;injection e with e;subst e;exact hf
structure MT(R:List UInt8->z_->Bool->Prop)(w:World)(b:Bs)(q:Ba)(A:Nat)(cd:Int)(m:MS)(fa ta ra:OA)(fc tc rc:Nat)(u:World):Prop where
 o:Out R (b.sf++b.lo) b.wd cd m
 cm:Cl u A 111 [Sc Se cd,Sc Se m.ep,Sa fa m.fs.length fc,Sc Se m.s.wd,Sa ta m.s.ts.length tc,Sa ra m.s.rs.length rc]
 cb:Cl u w.heap.size 47 (bsV b q)
 fl:T.P6 u fa m.fs
 st:xh u ta ra m.s
 bel:Bw w u
theorem LZ(d:Nat){p:String}{af:Array Edge}{ops:Array Oper}{a:Act}{w:World}{K:Act->World->Prop}{Q:Exit->Act->World->Prop}{E:Prop}(h:∀z g,g=w.heap.size->Hid (Cl z g 111 [Sc Se 0,Sc Se 0,Sa none 0 0,Sc Se 0,Sa none 0 0,Sa none 0 0])->Bw w z->K (a.put (some d) (Sd (some ⟨g,0,none⟩))) z):if Region.wanted ⟨some d,.alloc 111,0,p,af,none⟩ (yielded ops a.tmps)=true then Oper.wp prog ⟨some d,.alloc 111,0,p,af,none⟩ a w K Q else E:=by
 go_simp;exact h _ _ rfl (I4 w [vO,vO,vN,vO,vN,vN] 111) U6
def Pre(b:Bs):Prop:=(0<=b.now/\b.now<=1000000)/\Hrd b.hd b.now
def Upp(b:Bs)(m:MS):Prop:=Rem b m/\(0<=b.ed/\b.ed<=1000)/\gK b.rt/\∃ms,G.Ih b.fs ms/\wF ms b.rn/\JbI b
def VM(b:Bs)(m:MS):Prop:=(b.up=true/\Upp b m)\/(b.up=false/\iD b)
theorem c75(b:Bs)(q:Ba)(w:World)(hl:lg b 1048576)(hsl:b.sf.length+b.lo.length<=1048576)(hcp:PN b q)(hv:G.Vk w)(hat:jh w b q):
 Calls prog 75 #[.agg (bsV b q).toArray] w λe w'=>((e=Sf (.bool false)/\¬Pre b)\/∃cd m,Out RE (b.sf++b.lo) b.wd cd m/\Rb (Pre b/\cd=0/\VM b m) e)/\Bw w w':=by
 have HA:=U0 hat;have HL:=U0 hl;have HV:=U0 hv;have HCP:=U0 hcp;have HES:Hid (∀i,((b.sf++b.lo).getD i ByteArray.empty).size<=1048576):=λi=>by
  by_cases h:i<b.sf.length
  ·rw[show(b.sf++b.lo).getD i ByteArray.empty=b.sf.getD i ByteArray.empty by simp[List.getD,D_ h]];exact hl.ss i
  rw[show(b.sf++b.lo).getD i ByteArray.empty=b.lo.getD (i-b.sf.length) ByteArray.empty by simp[List.getD,Yf (Aq h)]];exact hl.ls _
 clear hat hl hv hcp
 go_in
 go_upto_region 1 with fail
 have C0:=U0 (I4 w (bsV b q) 47);have B0:=U0 (U6 (w:=w) (o:=Sg (bsV b q).toArray 47));generalize w.alloc (Sg (bsV b q).toArray 47)=V at*;have a2:=C0.o.cell 2;have a11:=C0.o.cell 11;simp only[gz]at a2 a11;by_cases h1:b.now<0
 ·have HN:Hid (¬Pre b):=λh=>by have:=h.1.1;omega
  go_wp2;go_ret;exact⟨.inl ⟨rfl,HN.o⟩,B0.o⟩
 by_cases h2:1000000<b.now
 ·have HN:Hid (¬Pre b):=λh=>by have:=h.1.2;omega
  go_wp2;go_ret;exact⟨.inl ⟨rfl,HN.o⟩,B0.o⟩
 go_wp2_with fail
 refine(a4F q.ha q.hc b.hd b.now V HL.o.hl (Uh HA.o.hd B0.o)).mono ?_;rintro e V'⟨⟨bo,rfl,hbo⟩,hw⟩;obtain rfl:=hw.symm
 cases bo with
 | false=>
  have HN:Hid (¬Pre b):=λh=>by have:=hbo.2 h.2;cases this
  clear hbo;go_wp2;go_ret;exact⟨.inl ⟨rfl,HN.o⟩,B0.o⟩
 | true=>
 have HPR:Hid (Pre b):=⟨⟨O0,O0⟩,hbo.1 rfl⟩;clear hbo a2 a11
 go_upto_region 3 with fail
 go_cut[3] from 4 (λs3 wx=>∃A cd m fa ta ra fc tc rc,s3=Sd (some (aA A 0))/\Hid (MT RE w b q A cd m fa ta ra fc tc rc wx))
 case first=>
  have HSX:Hid (∀u,Bw V u->u.cell? (aW w 0)=some (vI b.wd)/\u.cell? (aW w 5)=some (vL q.sa b.sf.length q.sc)/\u.cell? (aW w 6)=some (vL q.la b.lo.length q.lc)):=λu hu=>have h:=C0.o.below hu C0.o.lt;⟨h.cell 0,h.cell 5,h.cell 6⟩
  have bd:Bw V V.drew:=(O4 _ _).drew;have HCA:Hid (∀u,Bw V u->Calls prog 122 #[.agg #[Sa q.sa b.sf.length q.sc,Sa q.la b.lo.length q.lc]] u λe w'=>(∃a c,e=Sf (vL a (b.sf++b.lo).length c)/\J8 w' a (b.sf++b.lo))/\Bw u w'):=λu hu=>a6s b.sf b.lo q.sa q.la q.sc q.lc u hsl (G6 HA.o.sf (E5 B0.o hu)) (G6 HA.o.lo (E5 B0.o hu));have HCB:Hid (∀u a c,Bw V u->J8 u a (b.sf++b.lo)->Calls prog 121 #[Sa a (b.sf.length+b.lo.length) c,Sc Se b.wd] u λe w'=>(∃cd m fa fc ta tc ra rc,e=Sf (.agg #[vI cd,vI m.ep,vL fa m.fs.length fc,vI m.s.wd,vL ta m.s.ts.length tc,vL ra m.s.rs.length rc])/\Out RE (b.sf++b.lo) b.wd cd m/\Kp u.heap.size w' λu=>T.P6 u fa m.fs/\xh u ta ra m.s)/\Bw u w'):=λu a c hu h=>by
   have hc:=a3g a c (b.sf++b.lo) b.wd u (by rw[Q9];exact hsl) HES.o h (S9 HV.o.vr.mx (E5 B0.o hu));rw[Q9]at hc;exact hc
  refine mG HSX bd Y0 λhH=>?_
  replace bd:=U0 bd
  generalize V.drew=y at*
  iterate 2 refine sq ?_
  refine tq 3 hH ?_;refine y_ 4 ?_
  iterate 3 (all_goals((first|refine an2 (λK hK=>?_) (λK hK=>?_)|refine an1 (λK hK=>?_));all_goals(
   (first
    | (refine LZ 3 ?_;intro y A hA CA hb;have hVA:=U0 (hA▸bd.o.size);(try have hn:Hid (A<n0\/w1.heap.size<=A):=.inr (hA▸HB1.o.size));clear hA)
    | (obtain⟨n0,e0⟩:∃n,n=y.heap.size:=⟨_,rfl⟩
       go_simp
       first
        | (refine(HCA.o _ bd.o).mono ?_;rintro e y⟨⟨a1,k1,rfl,h1⟩,hb⟩;have S1:=U0 h1;clear h1)
        | (refine(HCB.o _ a1 k1 bd.o S1.o).mono ?_
           rintro e w1⟨⟨cd,m,fa,fc,ta,tc,ra,rc,rfl,ho,hk⟩,hb⟩;rw[<- e0]at hk;have HO:=U0 ho;have HK:=U0 hk
           try have hn:Hid (A<n0\/w1.heap.size<=A):=.inl (e0▸CA.o.lt)
           obtain⟨y,hy⟩:∃y,y=w1:=⟨_,rfl⟩;have HB1:Hid (Bw w1 y):=hy▸O4 _ _;rw[<- hy]at hb ⊢;clear ho hk hy)))
   (try replace CA:=U0 (CA.o.below hb CA.o.lt))
   (try replace S1:=U0 (G6 S1.o hb))
   (try replace HB1:=U0 (E5 HB1.o hb))
   replace bd:=U0 (E5 bd.o hb)
   clear hb;refine hK.o _ _ (HSX.o _ bd.o) λhH=>?_;clear hK K
   try simp only[qq])))
  all_goals
   refine rq 7 λK hK=>?_;refine qc rfl 111 _ _ rfl (j:=0) rfl rfl CA.o A8 (Nh rfl rfl rfl rfl rfl rfl) Y0 ?_;intro z cz oz;have hz:=bd.o.trans (oz.below hVA.o);have hP:=HK.o z (X7 HB1.o.size (Vf oz.size.symm)) (λq h1 h2=>(oz.block q (by have:=hn.o;omega)).trans (HB1.o.block q h2));have HT:Hid (MT RE w b q A cd m fa ta ra fc tc rc z):=⟨HO.o,cz,C0.o.below hz C0.o.lt,hP.1,hP.2,E5 B0.o hz⟩;refine G9 hK (HSX.o _ hz) λhH=>?_;clear hK K;refine wdn ?_
   go_wp2_with fail
   go_meet
   exact⟨_,_,_,_,_,_,_,_,_,rfl,HT⟩
 obtain⟨A,cd,m,fa,ta,ra,fc,tc,rc,rfl,HT⟩:=hcut;have HO:=U0 HT.o.o;have CM:=U0 HT.o.cm;have CB:=U0 HT.o.cb;have BC:=U0 HT.o.bel;have HF:=U0 HT.o.fl;have HSt:=U0 HT.o.st;have HSM:=U0 HT.o.o.1;clear HT C0 B0;have m0:=CM.o.cell 0;simp only[gz]at m0;have a1:=CB.o.cell 1;simp only[gz]at a1;by_cases hcd:cd=0;rotate_left
 ·have HN:Hid (¬(Pre b/\cd=0/\VM b m)):=λh=>hcd h.2.1;go_wp2;go_ret;exact⟨.inr ⟨cd,m,HO,P5 HN⟩,BC⟩
 rw[hcd]at m0;have HCD:=U0 hcd;clear hcd
 cases hup:b.up with
 | false=>
  rw[hup]at a1;have HUP:=U0 hup;clear hup
  go_wp2_with(refine Oa rfl (N9 47 _ rfl (B:=w.heap.size) (j:=0) (cs:=(bsV b q)) rfl (λq v e=>by rw[Y8];exact(CB.o.cell q).trans e) underlying47 rfl Y0) ?_)
  refine(a4Q b q wc HL HPR.o.2.1 (HA.o.below BC)).mono ?_;rintro e w2⟨⟨bo,rfl,hbo⟩,hb2⟩;have HE:Hid (bo=true↔Pre b/\cd=0/\VM b m):=⟨λh=>⟨HPR,HCD,.inr ⟨HUP,hbo.1 h⟩⟩,λh=>hbo.2 (by rcases h.2.2 with⟨k,_⟩|⟨_,k⟩;(rw[HUP.o]at k;cases k);exact k)⟩;have B2:=U0 (E5 BC hb2);clear hbo hb2;go_wp2;go_ret;exact⟨.inr ⟨cd,m,HO,_,rfl,HE⟩,B2⟩
 | true=>
 rw[hup]at a1;have HUP:=U0 hup;clear hup;have HNO:Hid (¬Upp b m->¬(Pre b/\cd=0/\VM b m)):=λh k=>by
  rcases k.2.2 with⟨_,k⟩|⟨k,_⟩
  ·exact h k
  rw[HUP.o]at k;cases k
 have HYE:Hid (Upp b m->Pre b/\cd=0/\VM b m):=λh=>⟨HPR,HCD,.inl ⟨HUP,h⟩⟩
 go_upto_region 8 with fail
 clear m0 a1;have HSX:Hid (∀u,Bw wc u->Cl u w.heap.size 47 (bsV b q)/\Cl u A 111 [vI cd,vI m.ep,vL fa m.fs.length fc,vI m.s.wd,vL ta m.s.ts.length tc,vL ra m.s.rs.length rc]/\u.cell? (aW w 4)=some (vI b.ed)/\u.cell? (aW w 7)=some (vL q.fa b.fs.length q.fc)/\u.cell? (aW w 12)=some (vL q.oa b.rt.length q.oc)/\u.cell? (aW w 13)=some (vL q.na b.rn.length q.nc)):=λu hu=>by
  have h1:=CB.o.below hu CB.o.lt;have h2:=CM.o.below hu CM.o.lt;exact⟨h1,h2,h1.cell 4,h1.cell 7,h1.cell 12,h1.cell 13⟩
 have hvd:Bw wc wc.drew:=(O4 _ _).drew;refine wp_region_held_drew (S:=λu=>Cl u w.heap.size 47 (bsV b q)/\Cl u A 111 [vI cd,vI m.ep,vL fa m.fs.length fc,vI m.s.wd,vL ta m.s.ts.length tc,vL ra m.s.rs.length rc]/\u.cell? (aW w 4)=some (vI b.ed)/\u.cell? (aW w 7)=some (vL q.fa b.fs.length q.fc)/\u.cell? (aW w 12)=some (vL q.oa b.rt.length q.oc)/\u.cell? (aW w 13)=some (vL q.na b.rn.length q.nc)) Y0 (HSX _ hvd) λhH=>?_;refine tq 0 hH ?_ (hv:=λu hu=>N9 47 _ rfl (B:=w.heap.size) (j:=0) (cs:=(bsV b q)) rfl (λq v e=>by rw[Y8];exact(hu.1.cell q).trans e) underlying47 rfl Y0)
 try simp only[qq]
 refine tq 1 hH ?_ (hv:=λu hu=>N9 111 _ rfl (B:=A) (j:=0) (cs:=[vI cd,vI m.ep,vL fa m.fs.length fc,vI m.s.wd,vL ta m.s.ts.length tc,vL ra m.s.rs.length rc]) rfl (λq v e=>by rw[Y8];exact(hu.2.1.cell q).trans e) underlying111 rfl Y0)
 try simp only[qq]
 refine rq 2 λK hK=>?_;go_simp;have a7Y:=U0 (c124 b q cd m fa ta ra fc tc rc wc.drew HL HSM (HA.o.below (E5 BC hvd)) (T.J5 HF hvd) (HSt.o.below hvd));refine a7Y.o.mono ?_;rintro e w2⟨⟨bo,rfl,hbo⟩,hb2⟩;have b2:=hvd.trans (hb2.mono A8);clear hb2 a7Y
 go_wp2_with fail
 refine G9 hK (HSX _ b2) λhH=>?_;clear hK K
 cases bo with
 | false=>
  have HN1:=U0 (HNO.o (λh=>by have:=hbo.2 h.1;cases this));clear hbo
  iterate 28 refine sq ?_
  refine wdn ?_;go_wp2;go_ret;exact⟨.inr ⟨cd,m,HO,P5 HN1⟩,E5 BC b2⟩
 | true=>
 have HR:=U0 (hbo.1 rfl);clear hbo
 iterate 3 refine sq ?_
 by_cases h3:0<=b.ed;rotate_left
 ·have HN1:=U0 (HNO.o (λh=>h3 h.2.1.1));have z:b.ed<0:=O0;refine sq ?_
  try rw[j_ h3]
  iterate 24 refine sq ?_
  refine wdn ?_;go_wp2;go_ret;exact⟨.inr ⟨cd,m,HO,P5 HN1⟩,E5 BC b2⟩
 refine sq ?_
 try rw[X_ h3]
 iterate 4 refine sq ?_
 by_cases h4:b.ed<=1000;rotate_left
 ·have HN1:=U0 (HNO.o (λh=>h4 h.2.1.2));have z:1000<b.ed:=O0;refine sq ?_
  try rw[j_ h4]
  iterate 19 refine sq ?_
  refine wdn ?_;go_wp2;go_ret;exact⟨.inr ⟨cd,m,HO,P5 HN1⟩,E5 BC b2⟩
 refine sq ?_
 try rw[X_ h4]
 iterate 4 refine sq ?_
 refine rq 16 λK hK=>?_;go_simp;refine(a6F q.oa q.oc b.rt w2 HCP.o.1 HL.o.rl HL.o.rs (G6 HA.o.rt (E5 BC b2))).mono ?_;rintro e w3⟨⟨bo,rfl,hbo⟩,hw3⟩;obtain rfl:=hw3.symm
 go_wp2_with fail
 refine G9 hK (HSX _ b2) λhH=>?_;clear hK K
 cases bo with
 | false=>
  have HN1:=U0 (HNO.o (λh=>by have:=hbo.2 h.2.2.1;cases this));clear hbo
  iterate 14 refine sq ?_
  refine wdn ?_;go_wp2;go_ret;exact⟨.inr ⟨cd,m,HO,P5 HN1⟩,E5 BC b2⟩
 | true=>
 have HRT:=U0 (hbo.1 rfl);clear hbo
 iterate 6 refine sq ?_
 refine rq 23 λK hK=>?_;go_simp;refine(G.c127 q.fa q.fc b.fs w2 HL.o.fl HL.o.fz (T.J5 HA.o.fs (E5 BC b2)) (HV.o.below (E5 BC b2))).mono ?_;rintro e w3⟨⟨ms,v,rfl,hrow,hpt⟩,hb3⟩;obtain⟨pa,pc,rfl,hmk⟩:=G.yt hrow;have b3:=E5 b2 hb3;have HPT:=U0 hpt;have HMK:=U0 hmk;clear hb3 hrow hpt hmk
 go_wp2_with fail
 refine G9 hK (HSX _ b3) λhH=>?_;clear hK K;refine rq 24 λK hK=>?_;go_simp;refine(a4s q.na pa q.nc pc b.rn ms w3 HL.o.nl HL.o.ns (G.jA HPT) (G.jH HPT) (Jf HA.o.rn (E5 BC b3)) HMK).mono ?_;rintro e w4⟨⟨bo,rfl,hbo⟩,hb4⟩;have b4:=E5 b3 hb4;clear hb4
 go_wp2_with fail
 refine G9 hK (HSX _ b4) λhH=>?_;clear hK K
 cases bo with
 | false=>
  have HN1:=U0 (HNO.o (λh=>by
   obtain⟨ms',h5,h6,_⟩:=h.2.2.2;obtain rfl:=G.fA h5 HPT.o;have:=hbo.2 h6;cases this))
  clear hbo
  iterate 6 refine sq ?_
  refine wdn ?_;go_wp2;go_ret;exact⟨.inr ⟨cd,m,HO,P5 HN1⟩,E5 BC b4⟩
 | true=>
 have HRN:=U0 (hbo.1 rfl);clear hbo
 iterate 2 refine sq ?_
 refine tq 27 hH ?_ (hv:=λu hu=>N9 47 _ rfl (B:=w.heap.size) (j:=0) (cs:=(bsV b q)) rfl (λq v e=>by rw[Y8];exact(hu.1.cell q).trans e) underlying47 rfl Y0)
 try simp only[qq]
 refine rq 28 λK hK=>?_;go_simp;refine(a5S b q w4 HL HCP.o.2.1 HPR.o.1.1 HPR.o.1.2 (HA.o.below (E5 BC b4))).mono ?_;rintro e w5⟨⟨bo,rfl,hbo⟩,hb5⟩;have b5:=E5 b4 hb5;have HE:Hid (bo=true↔Pre b/\cd=0/\VM b m):=⟨λh=>HYE.o ⟨HR,⟨h3,h4⟩,HRT,ms,HPT,HRN,hbo.1 h⟩,λh=>hbo.2 (by
  rcases h.2.2 with⟨_,k⟩|⟨k,_⟩
  ·obtain⟨_,_,_,k⟩:=k.2.2.2;exact k
  rw[HUP.o]at k;cases k)⟩
 have B5:=U0 (E5 BC b5);clear hb5 hbo
 go_wp2_with fail
 refine G9 hK (HSX _ b5) λhH=>?_;clear hK K
 iterate 2 refine sq ?_
 refine wdn ?_;go_wp2;go_ret;exact⟨.inr ⟨cd,m,HO,_,rfl,HE⟩,B5⟩
theorem a2u(fs:List T.F2):∃ms,G.Ih fs ms:=by
 by_cases ht:T.G_ fs;rotate_left
 ·exact⟨[],.inl ⟨ht,rfl⟩⟩
 by_cases hf:G.Free fs G.Uu
 ·exact⟨[],.inr (.inl ⟨ht,hf,rfl⟩)⟩
 obtain⟨i,b,g⟩:∃i,i<fs.length/\(fs.getD i T.o9).nm=G.Uu:=Classical.byContradiction λh=>hf λi b e=>h ⟨i,b,e⟩;obtain⟨a,ok,f⟩:∃a ok,G.t_ (fs.getD i T.o9).tx.data.toList a ok:=by
  by_cases h:∃js,G.Ad js=true/\js.flatMap G.E_=(fs.getD i T.o9).tx.data.toList/\(fs.getD i T.o9).tx.data.toList.length<=300
  ·obtain⟨js,h1,h2,d⟩:=h;exact⟨js,true,λ_=>⟨h1,h2,d⟩,λc=>by cases c⟩
  exact⟨[],false,(λc=>by cases c),λ_=>⟨rfl,λjs h1 h2=>Nat.lt_of_not_le λd=>h ⟨js,h1,h2,d⟩⟩⟩
 by_cases h:ok=true/\G.En fs a
 ·exact⟨a,.inr (.inr ⟨ht,i,b,g,a,ok,f,.inl ⟨h.1,h.2,rfl⟩⟩)⟩
 exact⟨[],.inr (.inr ⟨ht,i,b,g,a,ok,f,.inr ⟨h,rfl⟩⟩)⟩
def yZ(b:Bs)(m:MS):Prop:=Rem b m/\(0<=b.ed/\b.ed<=1000)/\gK b.rt/\∃ms,G.Ih b.fs ms/\wF ms b.rn/\JbS b
def ZP(b:Bs)(m:MS):Prop:=(b.up=true/\yZ b m)\/(b.up=false/\iD b)
theorem c20(b:Bs)(q:Ba)(w:World)(hl:lg b 1048576)(hsl:b.sf.length+b.lo.length<=1048576)(hcp:PN b q)(hat:jh w b q):
 Calls prog 20 #[.agg (bsV b q).toArray] w λe w'=>((e=Sf (.bool false)/\¬(Pre b/\1<=b.wd/\b.wd<=8))\/∃cd m,Out RES (b.sf++b.lo) b.wd cd m/\Rb (Pre b/\cd=0/\ZP b m) e)/\Bw w w':=by
 have HA:=U0 hat;have HL:=U0 hl;have HCP:=U0 hcp;have hhl:=hl.hl;have hrl:=hl.rl;have HES:Hid (∀i,((b.sf++b.lo).getD i ByteArray.empty).size<=1048576):=λi=>by
  by_cases h:i<b.sf.length
  ·rw[show(b.sf++b.lo).getD i ByteArray.empty=b.sf.getD i ByteArray.empty by simp[List.getD,D_ h]];exact hl.ss i
  rw[show(b.sf++b.lo).getD i ByteArray.empty=b.lo.getD (i-b.sf.length) ByteArray.empty by simp[List.getD,Yf (Aq h)]];exact hl.ls _
 clear hat hl hcp
 go_in
 go_upto_region 1 with fail
 have C0:=U0 (I4 w (bsV b q) 47);have B0:=U0 (U6 (w:=w) (o:=Sg (bsV b q).toArray 47));generalize w.alloc (Sg (bsV b q).toArray 47)=V at*;have a0:=C0.o.cell 0;have a2:=C0.o.cell 2;have a11:=C0.o.cell 11;simp only[gz]at a0 a2 a11
 go_wp2_with fail
 refine(c59 b.wd V).mono ?_;rintro e V'⟨rfl,hw⟩;obtain rfl:=hw.symm;by_cases h1:1<=b.wd/\b.wd<=8;rotate_left
 ·have HN:Hid (¬(Pre b/\1<=b.wd/\b.wd<=8)):=λh=>h1 h.2;rw[j_ h1];go_wp2;go_ret;exact⟨.inl ⟨rfl,HN⟩,B0⟩
 rw[X_ h1]
 go_wp2_with fail
 refine(ZK b.hd.length 1 4 V).mono ?_;rintro e V'⟨rfl,hw⟩;obtain rfl:=hw.symm;by_cases h2:1<=b.hd.length/\b.hd.length<=4;rotate_left
 ·have HN:Hid (¬(Pre b/\1<=b.wd/\b.wd<=8)):=λh=>h2 h.1.2.1;rw[show decide (1<=(b.hd.length:Int)/\(b.hd.length:Int)<=4)=false from j_ O0];go_wp2;go_ret;exact⟨.inl ⟨rfl,HN⟩,B0⟩
 rw[show decide (1<=(b.hd.length:Int)/\(b.hd.length:Int)<=4)=true from X_ O0]
 go_wp2_with fail
 refine(ZK b.now 0 1000000 V).mono ?_;rintro e V'⟨rfl,hw⟩;obtain rfl:=hw.symm;by_cases h3:0<=b.now/\b.now<=1000000;rotate_left
 ·have HN:Hid (¬(Pre b/\1<=b.wd/\b.wd<=8)):=λh=>h3 h.1.1;rw[j_ h3];go_wp2;go_ret;exact⟨.inl ⟨rfl,HN⟩,B0⟩
 rw[X_ h3];clear a0 a2 a11
 go_upto_region 3 with fail
 go_cut[3] from 4 (λs3 wx=>∃A cd m fa ta ra fc tc rc,s3=Sd (some ⟨A,0,none⟩)/\Hid (MT RES w b q A cd m fa ta ra fc tc rc wx))
 case first=>
  have HSX:Hid (∀u,Bw V u->u.cell? ⟨w.heap.size,0,none⟩=some (vI b.wd)/\u.cell? ⟨w.heap.size,5,none⟩=some (vL q.sa b.sf.length q.sc)/\u.cell? ⟨w.heap.size,6,none⟩=some (vL q.la b.lo.length q.lc)):=λu hu=>have h:=C0.o.below hu C0.o.lt;⟨h.cell 0,h.cell 5,h.cell 6⟩
  have bd:Bw V V.drew:=(O4 _ _).drew;have HCA:Hid (∀u,Bw V u->Calls prog 62 #[.agg #[Sa q.sa b.sf.length q.sc,Sa q.la b.lo.length q.lc]] u λe w'=>(∃a c,e=Sf (vL a (b.sf++b.lo).length c)/\J8 w' a (b.sf++b.lo))/\Bw u w'):=λu hu=>c62 b.sf b.lo q.sa q.la q.sc q.lc u hsl (G6 HA.o.sf (E5 B0 hu)) (G6 HA.o.lo (E5 B0 hu));have HCB:Hid (∀u a c,Bw V u->J8 u a (b.sf++b.lo)->Calls prog 61 #[Sa a (b.sf.length+b.lo.length) c,Sc Se b.wd] u λe w'=>(∃cd m fa fc ta tc ra rc,e=Sf (.agg #[vI cd,vI m.ep,vL fa m.fs.length fc,vI m.s.wd,vL ta m.s.ts.length tc,vL ra m.s.rs.length rc])/\Out RES (b.sf++b.lo) b.wd cd m/\Kp u.heap.size w' λu=>T.P6 u fa m.fs/\xh u ta ra m.s)/\Bw u w'):=λu a c hu h=>by
   have hc:=a4J a c (b.sf++b.lo) b.wd u (by rw[Q9];exact hsl) HES h;rw[Q9]at hc;exact hc
  refine mG HSX bd Y0 λhH=>?_
  replace bd:=U0 bd
  generalize V.drew=y at*
  iterate 2 refine sq ?_
  refine tq 3 hH ?_;refine y_ 4 ?_
  iterate 3 (all_goals((first|refine an2 (λK hK=>?_) (λK hK=>?_)|refine an1 (λK hK=>?_));all_goals(
   (first
    | (refine LZ 3 ?_;intro y A hA CA hb;have hVA:=U0 (hA▸bd.o.size);(try have hn:Hid (A<n0\/w1.heap.size<=A):=.inr (hA▸HB1.o.size));clear hA)
    | (obtain⟨n0,e0⟩:∃n,n=y.heap.size:=⟨_,rfl⟩
       go_simp
       first
        | (refine(HCA.o _ bd.o).mono ?_;rintro e y⟨⟨a1,k1,rfl,h1⟩,hb⟩;have S1:=U0 h1;clear h1)
        | (refine(HCB.o _ a1 k1 bd.o S1.o).mono ?_
           rintro e w1⟨⟨cd,m,fa,fc,ta,tc,ra,rc,rfl,ho,hk⟩,hb⟩;rw[<- e0]at hk;have HO:=U0 ho;have HK:=U0 hk
           try have hn:Hid (A<n0\/w1.heap.size<=A):=.inl (e0▸CA.o.lt)
           obtain⟨y,hy⟩:∃y,y=w1:=⟨_,rfl⟩;have HB1:Hid (Bw w1 y):=hy▸O4 _ _;rw[<- hy]at hb ⊢;clear ho hk hy)))
   (try replace CA:=U0 (CA.o.below hb CA.o.lt))
   (try replace S1:=U0 (G6 S1.o hb))
   (try replace HB1:=U0 (E5 HB1.o hb))
   replace bd:=U0 (E5 bd.o hb)
   clear hb;refine hK.o _ _ (HSX.o _ bd.o) λhH=>?_;clear hK K
   try simp only[qq])))
  all_goals
   refine rq 7 λK hK=>?_;refine qc rfl 111 _ _ rfl (j:=0) rfl rfl CA.o A8 (Nh rfl rfl rfl rfl rfl rfl) Y0 ?_;intro z cz oz;have hz:=bd.o.trans (oz.below hVA.o);have hP:=HK.o z (X7 HB1.o.size (Vf oz.size.symm)) (λq h1 h2=>(oz.block q (by have:=hn.o;omega)).trans (HB1.o.block q h2));have HT:Hid (MT RES w b q A cd m fa ta ra fc tc rc z):=⟨HO.o,cz,C0.o.below hz C0.o.lt,hP.1,hP.2,E5 B0.o hz⟩;refine G9 hK (HSX.o _ hz) λhH=>?_;clear hK K;refine wdn ?_
   go_wp2_with fail
   go_meet
   exact⟨_,_,_,_,_,_,_,_,_,rfl,HT⟩
 obtain⟨A,cd,m,fa,ta,ra,fc,tc,rc,rfl,HT⟩:=hcut;have HO:=U0 HT.o.o;have CM:=U0 HT.o.cm;have CB:=U0 HT.o.cb;have BC:=U0 HT.o.bel;have HF:=U0 HT.o.fl;have HSt:=U0 HT.o.st;have HSM:=U0 HT.o.o.1;clear HT C0 B0;have m0:=CM.o.cell 0;simp only[gz]at m0;by_cases hcd:cd=0;rotate_left
 ·have HN:Hid (¬(Pre b/\cd=0/\ZP b m)):=λh=>hcd h.2.1;go_wp2;go_ret;exact⟨.inr ⟨cd,m,HO,P5 HN⟩,BC⟩
 rw[hcd]at m0;have HCD:=U0 hcd;clear hcd;obtain⟨bb,off,hc⟩:=Vg HA.o.hd;have HC:=U0 hc;clear hc
 go_upto_region 6 with fail
 clear m0;go_wp2;go_loopw[4] (λi wr=>∃k:Nat,k<=b.hd.length/\i=Sc Se k/\Hid (∀j,j<k-> -1<=b.hd.getD j 0/\b.hd.getD j 0<=b.now)/\Below wc.heap.size wc wr) (λi _=>b.hd.length-(RowKit.intOf i).toNat);exact⟨0,Y4 _,rfl,λj h=>absurd h (U8 _),O4 _ _⟩;generalize wr=wo at*;obtain⟨k,hk,rfl,hd,hb⟩:=hrel;have CW:=U0 (CB.o.below hb CB.o.lt);have BW:=U0 (E5 BC hb);have MW:=U0 (CM.o.below hb CM.o.lt);have FW:=U0 (T.J5 HF hb);have SW:=U0 (HSt.o.below hb);have HBW:=U0 hb;clear hb;have a2:=CW.o.cell 2;have a11:=CW.o.cell 11;simp only[gz]at a2 a11;by_cases hlt:k<b.hd.length
 ·obtain⟨ha,hbw,hcell⟩:=Ud HC.o hlt;rw[ha]at a11;have HAq:=U0 ha;have g0:=(BW.o.cell (by exact hbw)).trans (hcell k hlt);have HD:Hid (-1<=b.hd.getD k 0/\b.hd.getD k 0<=b.now->∀j,j<k+1-> -1<=b.hd.getD j 0/\b.hd.getD j 0<=b.now):=λhg j hj=>by
   rcases Z7 j k with h|h
   ·exact hd j h
   obtain rfl:j=k:=O0;exact hg
  have HN:Hid (¬(-1<=b.hd.getD k 0/\b.hd.getD k 0<=b.now)->¬(Pre b/\cd=0/\ZP b m)):=λhg h=>hg (h.1.2.2 k hlt);generalize b.hd.getD k 0=X at*;clear hcell hd ha;by_cases hx:-1<=X/\X<=b.now
  ·have HD1:=U0 (HD.o hx);have H17:Hid (∀u,Calls prog 60 #[Sc Se X,Sc Se (-1),Sc Se b.now] u λe w'=>e=Sf (.bool true)/\w'=u):=λu=>by
    have h:=ZK X (-1) b.now u;rw[X_ hx]at h;exact h
   go_wp2_with fail
   go_region_with(go_at_call 60;refine(H17.o _).mono ?_;rintro e w1⟨rfl,rfl⟩)
   all_goals go_wp2
   all_goals go_roundw
   all_goals first
    | exact⟨k+1,O0,by go_num,HD1,HBW.o.drew⟩
    | (exact V9)
  have HN1:=U0 (HN.o hx);have H17:Hid (∀u,Calls prog 60 #[Sc Se X,Sc Se (-1),Sc Se b.now] u λe w'=>e=Sf (.bool false)/\w'=u):=λu=>by
   have h:=ZK X (-1) b.now u;rw[j_ hx]at h;exact h
  go_wp2_with fail
  go_region_with(go_at_call 60;refine(H17.o _).mono ?_;rintro e w1⟨rfl,rfl⟩)
  all_goals go_wp2
  all_goals go_ret
  all_goals exact⟨.inr ⟨cd,m,HO.o,P5 HN1.o⟩,BW.o.drew⟩
 obtain rfl:k=b.hd.length:=O0;have HPR:Hid (Pre b):=⟨h3,h2,hd⟩;clear hd hlt hk a2 a11;have a1:=CW.o.cell 1;have a11:=CW.o.cell 11;simp only[gz]at a1 a11
 cases hup:b.up with
 | false=>
  rw[hup]at a1;have HUP:=U0 hup;clear hup
  go_wp2_with(refine Oa rfl (N9 47 _ rfl (B:=w.heap.size) (j:=0) (cs:=(bsV b q)) rfl (λq v e=>by rw[Y8];exact(CW.o.cell q).trans e) underlying47 rfl Y0) ?_)
  refine(c63 b q wo HL (HA.o.below BW)).mono ?_;rintro e w2⟨⟨bo,rfl,hbo⟩,hb2⟩;have HE:Hid (bo=true↔Pre b/\cd=0/\ZP b m):=⟨λh=>⟨HPR,HCD,.inr ⟨HUP,hbo.1 h⟩⟩,λh=>hbo.2 (by rcases h.2.2 with⟨k,_⟩|⟨_,k⟩;(rw[HUP.o]at k;cases k);exact k)⟩;have B2:=U0 (E5 BW hb2);clear hbo hb2;go_wp2;go_ret;exact⟨.inr ⟨cd,m,HO,_,rfl,HE⟩,B2⟩
 | true=>
 rw[hup]at a1;have HUP:=U0 hup;clear hup;have HNO:Hid (¬yZ b m->¬(Pre b/\cd=0/\ZP b m)):=λh k=>by
  rcases k.2.2 with⟨_,k⟩|⟨k,_⟩
  ·exact h k
  rw[HUP.o]at k;cases k
 have HYE:Hid (yZ b m->Pre b/\cd=0/\ZP b m):=λh=>⟨HPR,HCD,.inl ⟨HUP,h⟩⟩
 go_upto_region 13 with fail
 clear a1 a11;have a3:=CW.o.cell 3;have a4:=CW.o.cell 4;have a7:=CW.o.cell 7;have a8:=CW.o.cell 8;have a9:=CW.o.cell 9;have a10:=CW.o.cell 10;have a12:=CW.o.cell 12;simp only[gz]at a3 a4 a7 a8 a9 a10 a12;have m1:=MW.o.cell 1;have m2:=MW.o.cell 2;have m3:=MW.o.cell 3;have m4:=MW.o.cell 4;have m5:=MW.o.cell 5;simp only[gz]at m1 m2 m3 m4 m5;by_cases h5:b.ep=m.ep;rotate_left
 ·have HN1:=U0 (HNO.o (λh=>h5 h.1.2.1));go_wp2;go_ret;exact⟨.inr ⟨cd,m,HO,P5 HN1⟩,BW⟩
 have H5:=U0 h5;rw[<- h5]at m1;clear h5;by_cases h6:1<=b.ep;rotate_left
 ·have HN1:=U0 (HNO.o (λh=>h6 h.1.1));go_wp2;go_ret;exact⟨.inr ⟨cd,m,HO,P5 HN1⟩,BW⟩
 go_wp2_with fail
 refine(ZK b.ed 0 1000 wo).mono ?_;rintro e V'⟨rfl,hw⟩;obtain rfl:=hw.symm;by_cases h7:0<=b.ed/\b.ed<=1000;rotate_left
 ·have HN1:=U0 (HNO.o (λh=>h7 h.2.1));rw[j_ h7];go_wp2;go_ret;exact⟨.inr ⟨cd,m,HO,P5 HN1⟩,BW⟩
 rw[X_ h7]
 go_wp2_with fail
 refine(c64 b.fs m.fs q.fa fa q.fc fc wo HL.o.fl (X7 HSM.o.fl U5) (T.J5 HA.o.fs BW) FW).mono ?_;rintro e w2⟨⟨bo,rfl,hbo⟩,hb2⟩;have B2:=U0 (E5 BW hb2);have C2:=U0 (CW.o.below hb2 CW.o.lt);have M2:=U0 (MW.o.below hb2 MW.o.lt);have S2:=U0 (SW.o.below hb2);clear hb2 a3 a4 a7 a8 a9 a10 a12 m1 m2 m3 m4 m5
 cases bo with
 | false=>
  have HN1:=U0 (HNO.o (λh=>by have:=hbo.2 h.1.2.2.1;cases this));clear hbo;go_wp2;go_ret;exact⟨.inr ⟨cd,m,HO,P5 HN1⟩,B2⟩
 | true=>
 have HFS:=U0 (hbo.1 rfl);clear hbo;have a8:=C2.o.cell 8;have a9:=C2.o.cell 9;have a10:=C2.o.cell 10;simp only[gz]at a8 a9 a10;have m3:=M2.o.cell 3;have m4:=M2.o.cell 4;have m5:=M2.o.cell 5;simp only[gz]at m3 m4 m5
 go_wp2_with fail
 refine(c65 b.s m.s q.ta q.ra ta ra q.tc q.rc tc rc w2 (rX HL.o.st) (a3T HSM) (HA.o.st.below B2) S2).mono ?_;rintro e w3⟨⟨bo,rfl,hbo⟩,hb3⟩;have B3:=U0 (E5 B2 hb3);have C3:=U0 (C2.o.below hb3 C2.o.lt);clear hb3 a8 a9 a10 m3 m4 m5
 cases bo with
 | false=>
  have HN1:=U0 (HNO.o (λh=>by have:=hbo.2 h.1.2.2.2;cases this));clear hbo;go_wp2;go_ret;exact⟨.inr ⟨cd,m,HO,P5 HN1⟩,B3⟩
 | true=>
 have HRM:Hid (Rem b m):=⟨h6,H5,HFS,hbo.1 rfl⟩;clear hbo;have a12:=C3.o.cell 12;simp only[gz]at a12;by_cases h8:b.rt.length<=10;rotate_left
 ·have HN1:=U0 (HNO.o (λh=>h8 h.2.2.1.1));have z:(10:Int)<b.rt.length:=O0;go_wp2;go_ret;exact⟨.inr ⟨cd,m,HO,P5 HN1⟩,B3⟩
 have z:¬(10:Int)<b.rt.length:=O0
 go_upto_region 15 with fail
 clear a12 z;obtain⟨rb,ro,hcr⟩:=Aa HA.o.rt;have HCR:=U0 hcr;have HOC:=U0 HCP.o.1;clear hcr;go_wp2;go_loopw[5] (λi wr=>∃k:Nat,k<=b.rt.length/\i=Sc Se k/\Hid (∀j,j<k->Y5 (b.rt.getD j ByteArray.empty).data.toList=true/\b.rt.getD j ByteArray.empty∉b.rt.take j)/\Below w3.heap.size w3 wr) (λi _=>b.rt.length-(RowKit.intOf i).toNat);exact⟨0,Y4 _,rfl,λj h=>absurd h (U8 _),O4 _ _⟩;obtain⟨k,hk,rfl,hd,hb⟩:=hrel;have CZ:=U0 (C3.o.below hb C3.o.lt);have BR:=U0 (E5 B3 hb);have HBR:=U0 hb;clear hb;have a12:=CZ.o.cell 12;simp only[gz]at a12;by_cases hlt:k<b.rt.length;rotate_left
 ·obtain rfl:k=b.rt.length:=O0;have HRT:Hid (gK b.rt):=⟨h8,hd⟩;obtain⟨ms,hpt⟩:=a2u b.fs;have HPT:=U0 hpt;clear hd hpt
  go_wp2_with(refine Oa rfl (N9 47 _ rfl (B:=w.heap.size) (j:=0) (cs:=(bsV b q)) rfl (λq v e=>by rw[Y8];exact(CZ.o.cell q).trans e) underlying47 rfl Y0) ?_)
  refine(c66 b q ms wr HL HPT (HA.o.below BR)).mono ?_;rintro e w4⟨⟨bo,rfl,hbo⟩,hb4⟩;have B4:=U0 (E5 BR hb4);have C4:=U0 (CZ.o.below hb4 CZ.o.lt);clear hb4 a12
  cases bo with
  | false=>
   have HN1:=U0 (HNO.o (λh=>by
    obtain⟨ms',h5,h6,_⟩:=h.2.2.2;obtain rfl:=G.fA h5 HPT.o;have:=hbo.2 h6;cases this))
   clear hbo;go_wp2;go_ret;exact⟨.inr ⟨cd,m,HO,P5 HN1⟩,B4⟩
  | true=>
  have HRN:=U0 (hbo.1 rfl);clear hbo
  go_wp2_with(refine Qx rfl 47 _ rfl (B:=w.heap.size) rfl C4.o underlying47 rfl Y0 ?_)
  refine(c67 b q w4 HL h3 (HA.o.below B4)).mono ?_;rintro e w5⟨⟨bo,rfl,hbo⟩,hb5⟩;have B5:=U0 (E5 B4 hb5);have HE:Hid (bo=true↔Pre b/\cd=0/\ZP b m):=⟨λh=>HYE.o ⟨HRM,h7,HRT,ms,HPT,HRN,hbo.1 h⟩,λh=>hbo.2 (by
   rcases h.2.2 with⟨_,k⟩|⟨k,_⟩
   ·obtain⟨_,_,_,k⟩:=k.2.2.2;exact k
   rw[HUP.o]at k;cases k)⟩
  clear hbo hb5;go_wp2;go_ret;exact⟨.inr ⟨cd,m,HO,_,rfl,HE⟩,B5⟩
 obtain⟨ha,hbw,hcell⟩:=Ud HCR.o hlt;have hvd:Bw wr wr.drew:=(O4 _ _).drew;have BD:=U0 (E5 BR hvd);have HX:=U0 ((BD.o.cell (by exact hbw)).trans (hcell k hlt));have hsz:=HL.o.rs k;have HD:Hid (Y5 (b.rt.getD k ByteArray.empty).data.toList=true/\b.rt.getD k ByteArray.empty∉b.rt.take k->∀j,j<k+1->Y5 (b.rt.getD j ByteArray.empty).data.toList=true/\b.rt.getD j ByteArray.empty∉b.rt.take j):=λhg j hj=>by
  rcases Z7 j k with h|h
  ·exact hd j h
  obtain rfl:j=k:=O0;exact hg
 have HN:Hid (¬(Y5 (b.rt.getD k ByteArray.empty).data.toList=true/\b.rt.getD k ByteArray.empty∉b.rt.take k)->¬(Pre b/\cd=0/\ZP b m)):=λhg=>HNO.o (λh=>hg (h.2.2.1.2 k hlt));have hcl:=λs=>G.c23 (some ⟨rb,ro,none⟩) q.oc (b.rt.take k) s wr.drew (by rw[Gq hk];omega) (SH hk (P9 hbw BD.o.size) (λi hi=>(BD.o.cell (by exact hbw)).trans (hcell i hi)));simp only[Gq hk]at hcl;have HQ:=U0 hcl;rw[ha]at a12;have HAq:=U0 ha;have hkc:k<=q.oc:=by have:=HOC.o;omega
 generalize b.rt.getD k ByteArray.empty=X at*;clear hcell hd hcl ha
 go_wp2_with fail
 refine wp_region_held_drew (S:=λu=>u.cell? ⟨w.heap.size,12,none⟩=some (vL (some ⟨rb,ro,none⟩) b.rt.length q.oc)/\u.cell? ⟨rb,ro+k,none⟩=some (vS X)) Y0 ⟨(CZ.o.below hvd CZ.o.lt).cell 12|>.trans (by rw[bsV,HAq.o];rfl),HX⟩ λhH=>?_;have hS:=U0 hH
 iterate 5 refine sq ?_
 refine rq 5 λK hK=>?_;go_simp;refine(c21 X wr.drew O0).mono ?_;rintro e w7⟨rfl,hw7⟩;obtain rfl:=hw7.symm
 go_wp2_with fail
 refine G9 hK hS λhH=>?_;clear hK K;by_cases hn:Y5 X.data.toList=true;rotate_left
 ·have HN1:=U0 (HN.o (λh=>hn h.1));rw[Uf.2 hn]
  iterate 13 refine sq ?_
  refine wdn ?_;go_wp2;go_ret;exact⟨.inr ⟨cd,m,HO,P5 HN1⟩,BD⟩
 rw[hn]
 iterate 11 refine sq ?_
 refine rq 17 λK hK=>?_;go_simp;refine(HQ X).mono ?_;rintro e w7⟨rfl,hw7⟩;obtain rfl:=hw7.symm
 go_wp2_with fail
 refine G9 hK hS λhH=>?_;clear hK K;by_cases hm:X∈b.rt.take k
 ·have HN1:=U0 (HN.o (λh=>h.2 hm));rw[G.Zc.2 hm];refine sq ?_;refine wdn ?_;go_wp2;go_ret;exact⟨.inr ⟨cd,m,HO,P5 HN1⟩,BD⟩
 have HD1:=U0 (HD.o ⟨hn,hm⟩);rw[Uf.2 (λh=>hm (G.Zc.1 h))];refine sq ?_;refine wdn ?_;go_wp2;go_roundw;exact⟨k+1,O0,by go_num,HD1,HBR.o.drew⟩;exact V9
@[go_sem] abbrev Rf(c:Int):Ending:=.panicked [{v:=.iface 195 (Sc Se c),recovered:=false}]
@[go_sem] abbrev Ut:Ending:=Sf (.tuple #[])
theorem c81(c:Int)(w:World):Calls prog 81 #[Sc Se c] w λe w'=>e=Rf c/\w'=w:=by
 go_in
 go_wp2;exact⟨rfl,rfl,rfl⟩
theorem c79(D:Nat)(up:Bool)(w:World)(h:w.cell? ⟨D,1,none⟩=some (.bool up)):Calls prog 79 #[Sd (some ⟨D,0,none⟩)] w λe w'=>e=(if up then Ut else Rf 2)/\w'=w:=by
 cases up with
 | true=>
  go_in
  go_wp2
  go_end0
  exact⟨rfl,rfl⟩
 | false=>
  go_in
  go_wp2_with(go_at_call 81;refine(c81 _ _).mono ?_;rintro e w'⟨rfl,hw⟩;obtain rfl:=hw.symm)
  exact⟨rfl,rfl,rfl⟩
def uF(b:Bs)(x:BY):Bs:={b with rt:=b.rt++[x]}
inductive gu(b:Bs)(q:Ba)(D:Nat)(R:List Value)(x:BY)(A:Nat)(w:World):Ending->World->Prop where
 | down (h:¬(b.up=true/\Y5 x.data.toList=true)):gu b q D R x A w (Rf 2) w
 | there (h:b.up=true/\Y5 x.data.toList=true) (hm:x∈b.rt):gu b q D R x A w Ut w
 | full (h:b.up=true/\Y5 x.data.toList=true) (hm:x∉b.rt) (hl:b.rt.length=10):gu b q D R x A w (Rf 3) w
 | new (h:b.up=true/\Y5 x.data.toList=true) (hm:x∉b.rt) (hl:b.rt.length≠10) (w':World) (oa:OA) (oc:Nat)
   (hC:Cl w' D 139 (bsV (uF b x) {q with oa:=oa,oc:=oc}++R)) (ho:w'.ownsRow A 9 1 (Sa oa (b.rt.length+1) oc) (b.rt.length+1) (b.rt.map Sb++[Sb x]))
   (hv:(Sa oa (b.rt.length+1) oc).ownBlock=(Sa q.oa b.rt.length q.oc).ownBlock\/∃p,w.heap.size<=p/\(Sa oa (b.rt.length+1) oc).ownBlock=some p) (hs:w.heap.size<=w'.heap.size) (os:w'.os=w.os/\w'.tape=w.tape/\w'.output=w.output)
   (hk:∀p,p<w.heap.size->p≠D->(Sa q.oa b.rt.length q.oc).ownBlock≠some p->w'.heap[p]?=w.heap[p]?):gu b q D R x A w Ut w'
theorem uM{w:World}{A c:Nat}{a:OA}{ss:LB}(h:w.ownsRow A 9 1 (Sa a ss.length c) ss.length (ss.map Sb)):G.mD w a ss:=by
 obtain⟨_,_,e,k⟩:=Iz h;cases e;exact k.imp id λ⟨b,off,h1,h2,d⟩=>⟨b,off,h1,h2,d⟩
theorem c33(b:Bs)(q:Ba)(D:Nat)(R:List Value)(x:BY)(A:Nat)(w:World)(hA:A<=w.heap.size)(hx:x.size<=1048576)(hl:b.rt.length<=1000)(hC:Cl w D 139 (bsV b q++R))(ho:w.ownsRow A 9 1 (Sa q.oa b.rt.length q.oc) b.rt.length (b.rt.map Sb)):
 Calls prog 33 #[Sd (some ⟨D,0,none⟩),Sb x] w (gu b q D R x A w):=by
 have d:=U0 hC;have s:=U0 ho;have K:=U0 (uM ho);clear ho hC
 go_in
 go_wp2_with fail
 refine(c79 D b.up w (d.o.cell 1)).mono ?_;rintro e w1⟨rfl,hw⟩;obtain rfl:=hw.symm;by_cases j:b.up=true;rotate_left
 ·have a:Hid (gu b q D R x A w (Rf 2) w):=.down λh=>j h.1;rw[U7 j];go_wp2;exact⟨rfl,a.o⟩
 rw[D8 j];have I:=U0 j;clear j
 go_wp2_with fail
 refine(c80 x w O0).mono ?_;rintro e w1⟨rfl,hw⟩;obtain rfl:=hw.symm;by_cases f:Y5 x.data.toList=true;rotate_left
 ·have a:Hid (gu b q D R x A w (Rf 2) w):=.down λh=>f h.2;rw[Uf.2 f]
  go_wp2_with(go_at_call 81;refine(c81 _ _).mono ?_;rintro e w'⟨rfl,hw⟩;obtain rfl:=hw.symm)
  exact⟨rfl,a.o⟩
 rw[f];have n:=U0 (And.intro I.o f);clear f
 go_wp2_with(refine J7 d.o rfl _ _ rfl rfl rfl Y0 ?_)
 refine(G.c82 q.oa q.oc b.rt x w hl K.o).mono ?_;rintro e w1⟨rfl,hw⟩;obtain rfl:=hw.symm;by_cases hm:x∈b.rt
 ·have a:Hid (gu b q D R x A w Ut w):=.there n.o hm;rw[G.Zc.2 hm];go_wp2
  go_end0
  exact a.o
 rw[Uf.2 (λh=>hm (G.Zc.1 h))];have v:=U0 hm;clear hm;by_cases h10:b.rt.length=10
 ·have a:Hid (gu b q D R x A w (Rf 3) w):=.full n.o v.o h10;have z:(b.rt.length:Int)=10:=O0
  go_wp2_with(first|(refine J7 d.o rfl _ _ rfl rfl rfl Y0 ?_)|(go_at_call 81;refine(c81 _ _).mono ?_;rintro e w'⟨rfl,hw⟩;obtain rfl:=hw.symm))
  exact⟨rfl,a.o⟩
 have z:¬(b.rt.length:Int)=10:=O0
 go_upto_region 6 with(refine J7 d.o rfl _ _ rfl rfl rfl Y0 ?_)
 have J:=U0 (I4 w [Sb x] 9);have c:=U0 (U6 (w:=w) (o:=Sg #[Sb x] 9));have L:Hid (some D≠(Sa q.oa b.rt.length q.oc).ownBlock):=λe=>by
  have:=N8 d.o.t (X6 s.o e.symm);cases this
 have H:Hid (∀u,(w.alloc (Sg #[Sb x] 9)).grownBy u (Sa q.oa b.rt.length q.oc).ownBlock->Cl u D 139 (bsV b q++R)):=λu k=>(d.o.below c.o d.o.lt).gr k L.o
 go_wp2_with(first|(refine J7 d.o rfl _ _ rfl rfl rfl Y0 ?_)|(refine Lc rfl _ _ 22 rfl A 9 1 underlying22 (Jc Y0) U5 _ b.rt.length (b.rt.map Sb) rfl (own_below s.o c.o) _ 1 [Sb x] rfl (.inr ⟨⟨w.heap.size,0,none⟩,1,rfl,rfl,yh J.o⟩) (X5 rfl) O0 (X7 hA c.o.size) ?_;intro v' B m k hv;obtain⟨oa,oc,rfl⟩:=x9 m;have y:=U0 (H.o B k);have r:=U0 m;have N:=U0 k;have E:=U0 hv;clear m k hv)|(refine Qc rfl 22 _ _ rfl (g:=D) (p:=12) rfl rfl Y0 y.o (by simp) ?_;intro z C i))
 have e1:b.rt.length+1=(b.rt++[x]).length:=by simp
 have F:Hid (Cl z D 139 (bsV (uF b x) {q with oa:=oa,oc:=oc}++R)):=by
  have h:Cl z D 139 ((bsV b q++R).set 12 (Sa oa (b.rt.length+1) oc)):=C;rw[e1]at h;exact h
 have g:=N.o;have a:Hid (gu b q D R x A w Ut z):=.new n.o v.o h10 z oa oc F.o
  (Z4 r.o (λp l=>i.block p (λe=>by
   subst e;have:=N8 y.o.t (X6 r.o l);cases this)))
  (E.o.imp id λe=>⟨_,by simp,e⟩) (X7 c.o.size (X7 g.size (Vf i.size.symm))) ⟨i.os.trans (g.os.trans c.o.os),i.tape.trans (g.tape.trans c.o.tape),i.output.trans (g.output.trans c.o.output)⟩
  (λp l hD f=>(i.block p hD).trans ((g.block p (P9 l c.o.size) (λe=>f e.symm)).trans (c.o.block p l)))
 go_end0
 exact a.o
theorem Yh{α:Type}{l:List α}{d:α}{f:α->ByteArray}(h:∀i,i<l.length->0<i->Op.bytesLess (f (l.getD (i-1) d)).toList (f (l.getD i d)).toList=true):∀(j i:Nat),i<j->j<l.length->Op.bytesLess (f (l.getD i d)).toList (f (l.getD j d)).toList=true
 | 0,i,h1,_=>absurd h1 (U8 _)
 | j+1,i,h1,h2=>by
  have hs:=h (j+1) h2 O0;rw[dK]at hs;by_cases e:i=j
  ·rw[e];exact hs
  exact T.Ju _ _ _ (Yh h j i O0 O0) hs
theorem QT{b:Bs}{ms:List M3}(hr:wF ms b.rn):JbS b↔JbI b:=by
 have o:=Yh (l:=b.rn) (d:=L9) (f:=λx=>x.nm) (λi a h0=>(hr i a).2.2 h0);constructor
 ·intro h i a;have p:=Yh (l:=b.jb) (d:=Ea) (f:=λx=>x.nm) (λi a h0=>(h i a).2.1 h0);obtain⟨⟨t,h1,h2,_,c⟩,_,k,r,q⟩:=h i a;refine⟨λm n ho=>?_,⟨t,h1,h2,c⟩,k,r⟩;rcases ho with ho|ho
  ·exact q m n ho
  rw[p i m n a]at ho;cases ho
 intro h i a;obtain⟨h1,⟨t,h2,c⟩,s,k⟩:=h i a;refine⟨⟨t,h2,c.1,λj g e=>?_,c.2⟩,λh0=>?_,s,k,λj g e=>h1 j g (.inl e)⟩
 ·have hl:=o t j g h2;rw[c.1,e]at hl;rw[T.Jq]at hl;cases hl
 cases hq:Op.bytesLess (b.jb.getD (i-1) Ea).nm.toList (b.jb.getD i Ea).nm.toList with
 | true=>rfl
 | false=>exact absurd (.inr hq) (h1 (i-1) O0)
