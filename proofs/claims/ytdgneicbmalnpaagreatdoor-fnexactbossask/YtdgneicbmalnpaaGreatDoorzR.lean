import Derived.Test.YtdgneicbmalnpaaGreatDoorwL
set_option linter.all false
set_option maxHeartbeats 0
set_option maxRecDepth 99999
open Go.Value renaming slice->Sa,string->Sb,int->Sc,pointer->Sd
open Go.IntKind renaming i64->Se
open Go.Ending renaming returned->Sf
open Go.Obj renaming cells->Sg
namespace Go.Proofs.YtdgneicbmalnpaaGreatDoor
open Proofs.Tryz Go.RowKit
variable{b:Bs}{e:Ending}{vs:List Value}{w:World}{a:OA}{α:Type}
def VSp(b:Bs)(r:Bool):Prop:=(r=false/\¬(Pre b/\1<=b.wd/\b.wd<=8))\/∃cd m,Out RES (b.sf++b.lo) b.wd cd m/\(r=true↔Pre b/\cd=0/\ZP b m)
def VIm(b:Bs)(r:Bool):Prop:=(r=false/\¬Pre b)\/∃cd m,Out RE (b.sf++b.lo) b.wd cd m/\(r=true↔Pre b/\cd=0/\VM b m)
theorem LW{m:MS}:yZ b m↔Upp b m:=by
 constructor
 ·rintro⟨h1,h2,e,ms,d,a,c⟩;exact⟨h1,h2,e,ms,d,a,(QT a).1 c⟩
 rintro⟨h1,h2,e,ms,d,a,c⟩;exact⟨h1,h2,e,ms,d,a,(QT a).2 c⟩
theorem kM{c a:Bool}(h1:VSp b c)(h2:VIm b a):c=a:=by
 rcases h1 with⟨rfl,h1⟩|⟨cd,m,o1,h1⟩
 ·rcases h2 with⟨rfl,_⟩|⟨cd,m,o2,h2⟩
  ·rfl
  cases a with
  | false=>rfl
  | true=>
   obtain⟨d,k2,_⟩:=h2.1 rfl;rcases o2.2 with⟨_,k,_⟩|⟨k,_⟩
   ·omega
   exact absurd ⟨d,k.1⟩ h1
 rcases h2 with⟨rfl,h2⟩|⟨cd',m',o2,h2⟩
 ·cases c with
  | false=>rfl
  | true=>exact absurd (h1.1 rfl).1 h2
 obtain⟨rfl,rfl⟩:=sZ o1 o2;have e:ZP b m'↔VM b m':=by
  unfold ZP VM;rw[LW]
 rw[Bool.eq_iff_iff,h1,h2,e]
theorem a2c(h:(e=Sf (.bool false)/\¬(Pre b/\1<=b.wd/\b.wd<=8))\/∃cd m,Out RES (b.sf++b.lo) b.wd cd m/\Rb (Pre b/\cd=0/\ZP b m) e):∃r,e=Sf (.bool r)/\VSp b r:=by
 rcases h with⟨rfl,h⟩|⟨cd,m,h1,r,rfl,h2⟩
 ·exact⟨_,rfl,.inl ⟨rfl,h⟩⟩
 exact⟨r,rfl,.inr ⟨cd,m,h1,h2⟩⟩
theorem a1N(h:(e=Sf (.bool false)/\¬Pre b)\/∃cd m,Out RE (b.sf++b.lo) b.wd cd m/\Rb (Pre b/\cd=0/\VM b m) e):∃r,e=Sf (.bool r)/\VIm b r:=by
 rcases h with⟨rfl,h⟩|⟨cd,m,h1,r,rfl,h2⟩
 ·exact⟨_,rfl,.inl ⟨rfl,h⟩⟩
 exact⟨r,rfl,.inr ⟨cd,m,h1,h2⟩⟩
theorem LY{xs:List Value}(h:vs.length=xs.length):Dp xs 0 vs=vs:=by
 unfold Dp;rw[Y8,h];simp
theorem c68(a:OA)(fs:List T.F2)(c:Nat)(w:World)(hn:fs.length<=1048576)(h:T.P6 w a fs):
 Calls prog 68 #[.agg #[Sa a fs.length c]] w λe w'=>(∃v,e=Sf (.agg #[v])/\w'.ownsRow w.heap.size 169 2 v fs.length (T.J3 fs))/\Bw w w':=by
 have u:=U0 (nD c h);clear h
 go_in
 go_upto_region 1 with fail
 have n:Hid (Cl ((w.alloc (Sg #[vL a fs.length c] 40)).alloc (Sg #[vN] 40)) w.heap.size 40 [vL a fs.length c]):=E8 (I4 w [_] 40) _;have m:Hid (Cl ((w.alloc (Sg #[vL a fs.length c] 40)).alloc (Sg #[vN] 40)) (w.heap.size+1) 40 [vN]):=Oh (xs:=[_]) J4;have p:Hid (Bw w ((w.alloc (Sg #[vL a fs.length c] 40)).alloc (Sg #[vN] 40))):=U6.alloc J4 _;have hz:w.heap.size+2<=((w.alloc (Sg #[vL a fs.length c] 40)).alloc (Sg #[vN] 40)).heap.size:=J4;generalize (w.alloc (Sg #[vL a fs.length c] 40)).alloc (Sg #[vN] 40)=V at*;obtain⟨W,f⟩:∃W,W=V.alloc (Sg #[] 169):=⟨_,rfl⟩;have b:=f▸U6;have i:Hid (W.ownsRow V.heap.size 169 2 (vL (some (aW V 0)) 0 0) 0 []):=U0 (f▸row0 V 169 2 rfl (Y7 _));have x:=U0 (n.o.below b n.o.lt)
 go_wp2_with(first|(rw[<- f];refine J7 x.o rfl 38 _ rfl rfl rfl Y0 ?_)|(at_builtin;refine Lc rfl _ _ 38 rfl V.heap.size 169 2 underlying38 (Jc Y0) U5 _ 0 [] rfl i.o _ fs.length (T.J3 fs) rfl (u.o _ (E5 p.o b)) T.Be O0 b.size ?_;intro v1 y1 d g1 _;rw[Y8,Y9]at d;obtain⟨a1,t,rfl⟩:=H9 d;have o:=U0 (Ib b g1 b.size (λk e=>X4 i.o e));have l:=U0 d;clear d g1)|(refine N7 rfl 40 _ _ rfl (j:=0) rfl rfl (m.o.below o.o m.o.lt) A8 (X5 rfl) Y0 ?_;intro z s g))
 refine P7 (l7 (P:=prog) (ty:=40) rfl _ z (w.heap.size+1) [vL a1 fs.length t] _ rfl s.blk underlying40 rfl Y0) rfl ⟨⟨_,rfl,?_⟩,(E5 p.o o.o).trans (g.below O0)⟩;exact I7 (Z4 l.o (λq r=>g.block q (by have:=X4 l.o r;omega))) O0
theorem c70(x:Rn)(a:OA)(c:Nat)(w:World)(hn:x.ls.length<=1048576)(h:O9 w a x.ls):
 Calls prog 70 #[.agg (Td (x,Sa a x.ls.length c)).toArray] w λe w'=>(∃B A,e=Sf (.agg (Td (x,Sa B x.ls.length A)).toArray)/\w'.ownsRow w.heap.size 213 4 (Sa B x.ls.length A) x.ls.length (x.ls.flatMap xw))/\Bw w w':=by
 have I:=U0 (dD c h);clear h
 go_in
 go_upto_region 1 with fail
 have d:Hid (Cl ((w.alloc (Sg (Td (x,vL a x.ls.length c)).toArray 119)).alloc (Sg #[vE,vO,vE,vN,vO,vE] 119)) w.heap.size 119 (Td (x,vL a x.ls.length c))):=E8 (I4 w (Td (x,vL a x.ls.length c)) 119) _;have r:Hid (Cl ((w.alloc (Sg (Td (x,vL a x.ls.length c)).toArray 119)).alloc (Sg #[vE,vO,vE,vN,vO,vE] 119)) (w.heap.size+1) 119 (Td (L9,vN))):=Oh (xs:=Td (L9,vN)) J4;have F:Hid (Bw w ((w.alloc (Sg (Td (x,vL a x.ls.length c)).toArray 119)).alloc (Sg #[vE,vO,vE,vN,vO,vE] 119))):=U6.alloc J4 _;have hz:w.heap.size+2<=((w.alloc (Sg (Td (x,vL a x.ls.length c)).toArray 119)).alloc (Sg #[vE,vO,vE,vN,vO,vE] 119)).heap.size:=J4;generalize (w.alloc (Sg (Td (x,vL a x.ls.length c)).toArray 119)).alloc (Sg #[vE,vO,vE,vN,vO,vE] 119)=V at*;obtain⟨W,m⟩:∃W,W=V.alloc (Sg #[] 213):=⟨_,rfl⟩;have b:=m▸U6;have C:Hid (W.ownsRow V.heap.size 213 4 (vL (some (aW V 0)) 0 0) 0 []):=U0 (m▸row0 V 213 4 rfl (Y7 _));have E:=U0 (d.o.below b d.o.lt);have J:=U0 (Vu (is:=x.ls) (f:=xw) (λx v hv=>by simp[xw]at hv;rcases hv with rfl|rfl|rfl|rfl<;>rfl))
 go_upto_region 2 with(first|(rw[<- m];refine J7 E.o rfl 116 _ rfl rfl rfl Y0 ?_)|(at_builtin;refine Lc rfl _ _ 116 rfl V.heap.size 213 4 underlying116 (Jc Y0) U5 _ 0 [] rfl C.o _ x.ls.length (x.ls.flatMap xw) rfl (I.o _ (E5 F.o b)) J.o O0 b.size ?_;intro v1 y1 i g1 _;rw[Y8,Y9]at i;obtain⟨a1,n,rfl⟩:=H9 i;have s:=U0 (Ib b g1 b.size (λk e=>X4 C.o e));have o:=U0 i;clear i g1)|(refine Qc rfl 116 _ _ rfl (p:=3) rfl rfl Y0 (d.o.below s.o d.o.lt) (show 3<6 by decide) ?_;intro z u g))
 have K:Hid (Cl z w.heap.size 119 (Td (x,vL a1 x.ls.length n))):=u;have L:=U0 ((r.o.below s.o r.o.lt).on g O0);have D:=U0 (Z4 o.o (λq l=>g.block q (by have:=X4 o.o l;omega)));have N:=U0 ((E5 F.o s.o).trans (g.below (Y7 _)));clear u g o d r E
 go_wp2_with(first|(refine D9 K.o rfl 119 _ rfl (j:=0) (Td (x,vL a1 x.ls.length n)) rfl rfl underlying119 rfl Y0 ?_)|(refine N7 rfl 119 _ _ rfl (j:=0) rfl rfl L.o A8 (X5 rfl) Y0 ?_;intro y H t))
 refine P7 (l7 (P:=prog) (ty:=119) rfl _ y (w.heap.size+1) (Td (x,vL a1 x.ls.length n)) _ rfl H.blk underlying119 rfl Y0) rfl ⟨⟨_,_,rfl,?_⟩,N.o.trans (t.below O0)⟩;exact I7 (Z4 D.o (λq l=>t.block q (by have:=X4 D.o l;omega))) O0
theorem aX{is:List G3}(c:Nat)(h:R_ w a is):∀u,Bw w u->Src u (Sa a is.length c) 3 is.length (gC is):=
 Vq (d:=Jh) (f:=jQ) c (λ_=>rfl) U5 (h.imp id λ⟨b,off,h1,h2,m⟩=>⟨b,off,h1,h2,λi l q v e=>by
  obtain⟨k,j,g⟩:=m i l
  match q,e with
  | 0,e=>injection e with e;subst e;exact k
  | 1,e=>injection e with e;subst e;exact j
  | 2,e=>injection e with e;subst e;exact g⟩)
theorem a5t(s:St)(ta ra:OA)(tc rc:Nat)(w:World)(o:s.ts.length<=1048576)(p:s.rs.length<=1048576)(q:∀i,(s.rs.getD i d_).gs.length<=1048576)(d:xh w ta ra s):
 Calls prog 69 #[.agg #[Sc Se s.wd,Sa ta s.ts.length tc,Sa ra s.rs.length rc]] w λe w'=>(∃tv rv,e=Sf (.agg #[Sc Se s.wd,tv,rv])/\W_ w' w.heap.size s.ts s.rs tv rv)/\Bw w w':=by
 refine(a3R s ta ra tc rc w o p q (λu a=>Ez d.1 a) λu a k hk=>?_).mono ?_
 ·rcases d.2 with h0|⟨b,off,h1,h2,t⟩
  ·rw[h0]at hk;exact absurd hk (U8 _)
  obtain⟨v,f,n,m,l,j⟩:=t k hk;exact⟨b,off,v,f,h1,P9 h2 a.size,(a.cell (by exact h2)).trans n,(a.cell (by exact h2)).trans m,(a.cell (by exact h2)).trans l,λz hz=>aX f j z (E5 a hz)⟩
 rintro e w'⟨⟨g,c,ra',rc',rfl,h⟩,r⟩;exact⟨⟨_,_,rfl,h⟩,r⟩
theorem OY{E:α×Value->List Value}{d x:α}{is:List α}{y:Value}(hl:vs.length=is.length):cE E d (is++[x]) (vs++[y])=cE E d is vs++E (x,y):=by
 unfold cE;rw[Q9,show [x].length=1 from rfl,fC,Vo]
 congr 1
 ·rw[zq,zq];refine G7 List.flatten (ku λi a=>?_);have:=Yp.1 a;rw[show(is++[x]).getD i d=is.getD i d from by simp[List.getD,D_ this],show(vs++[y]).getD i undef=vs.getD i undef from by simp[List.getD,D_ (show i<vs.length by omega)]]
 simp[List.getD,<- hl]
theorem Az.push{β:Type}{E:α×Value->List Value}{d x:α}{inn:α->List β}{f:β->List Value}{T m TI mi N c k:Nat}{l:OA}{is:List α}{v':Value}{u u2 u':World}(h:Az E d inn f T m TI mi N is [] (Sa a is.length c) is.length vs w)(hT:TI≠T)(B:N<=w.heap.size)(v:Bw w u)(ho:u.ownsRow w.heap.size TI mi (.slice l (inn x).length k) (inn x).length ((inn x).flatMap f))(s:Bw u u2)(g:u2.grownBy u' (Sa a is.length c).ownBlock)(O:u'.ownsRow N T m v' (is.length+1) (cE E d is vs++E (x,.slice l (inn x).length k))):Az E d inn f T m TI mi N (is++[x]) [] v' (is++[x]).length (vs++[.slice l (inn x).length k]) u':=by
 have H:=own_below (own_below h.row v) s;have kp:∀{y:Value}{M n:Nat}{xs:List Value},u2.ownsRow M TI mi y n xs->u'.ownsRow M TI mi y n xs:=λo=>Z4 o (λq b=>g.block q (o_ o b) (λe=>hT (N8 (X6 o b) (X6 H e.symm))));have r:∀i,i<is.length->(vs++[Value.slice l (inn x).length k]).getD i undef=vs.getD i undef:=λi p=>by simp[List.getD,D_ (show i<vs.length by rw[h.len];exact p)]
 have D:∀i,i<is.length->(is++[x]).getD i d=is.getD i d:=λi p=>by simp[List.getD,D_ p]
 have t:(vs++[Value.slice l (inn x).length k]).getD is.length undef=vL l (inn x).length k:=by simp[List.getD,<- h.len]
 have C:(is++[x]).getD is.length d=x:=by simp[List.getD]
 have hl:(is++[x]).length=is.length+1:=by simp
 have fr:∀i,i<is.length->∀q,(vs.getD i undef).ownBlock=some q->q<w.heap.size:=λi p q b=>by
  obtain⟨a1,z,e,o⟩:=h.gl i p;rw[e]at b;exact o_ o b
 rw[hl];refine⟨by rw[Q9,Q9,h.len]; rfl,?_,λi p=>?_,λi p=>?_,λi j p hj A=>?_⟩
 ·rw[OY h.len,hl];exact O
 ·by_cases e:i=is.length
  ·subst e;rw[t,C];exact⟨l,k,rfl,I7 (kp (own_below ho s)) B⟩
  rw[r i (by omega),D i (by omega)];obtain⟨a1,z,e1,o⟩:=h.gl i (by omega);exact⟨a1,z,e1,kp (own_below (own_below o v) s)⟩
 ·have h1:(vs++[Value.slice l (inn x).length k]).length<=i:=by simp[h.len];omega
  simp[List.getD,Eb h1]
 by_cases e:i=is.length
 ·subst e;rw[t,r j (by omega)]
  cases b:(Value.slice l (inn x).length k).ownBlock with
  | none=>exact .inl rfl
  | some q=>exact .inr λe=>by have:=fr j (by omega) q e.symm;have:=X4 ho b;omega
 rw[r i (by omega)];by_cases F:j=is.length
 ·subst F;rw[t]
  cases b:(vs.getD i undef).ownBlock with
  | none=>exact .inl rfl
  | some q=>exact .inr λe=>by have:=fr i (by omega) q b;have:=X4 ho e.symm;omega
 rw[r j (by omega)];exact h.apart i j (by omega) (by omega) A
structure QD(w:World)(M:Nat)(X0 X:List Value)(V:World):Prop where
 h0:Cl V w.heap.size 47 X0
 h1:Cl V (w.heap.size+1) 47 bz
 h2:Cl V M 47 X
 bw:Bw w V
 hM:w.heap.size+2<=M
section
variable{w V u z u':World}{M A n m:Nat}{X0 X X' xs ys:List Value}{v1 v5 v':Value}
theorem QD.call(h:QD w M X0 X V)(a:Bw V u):QD w M X0 X u:=⟨h.h0.below a h.h0.lt,h.h1.below a h.h1.lt,h.h2.below a h.h2.lt,E5 h.bw a,h.hM⟩
theorem QD.st(h:QD w M X0 X V)(b:Cl z M 47 X')(a:Jr M V z):QD w M X0 X' z:=have hM:=h.hM;⟨h.h0.on a O0,h.h1.on a O0,b,h.bw.trans (a.below O0),hM⟩
theorem jG(h:NE v1 v5):NE v5 v1:=λp h1 h2=>h p h2 h1
theorem sQ(h:u.ownsRow A 9 1 v5 n xs):NE (Sa (some ⟨u.heap.size,0,none⟩) 0 0) v5:=λp h1 h2=>by
 have:=o_ h h2;injection h1 with h1;have h1:u.heap.size=p:=h1;omega
theorem LQ(h:NE v1 v5)(k:u.ownsRow A 9 1 v5 n xs)(e:v'.ownBlock=v1.ownBlock\/v'.ownBlock=some u.heap.size):NE v' v5:=λp h1 h2=>by
 rcases e with e|e
 ·exact h p (e▸h1) h2
 have:=o_ k h2;rw[e]at h1;injection h1 with h1;have h1:u.heap.size=p:=h1;omega
theorem oV(k:u.ownsRow A 9 1 v5 n xs)(h:NE v1 v5)(g:u.grownBy u' v1.ownBlock):u'.ownsRow A 9 1 v5 n xs:=Z4 k (λp a=>g.block p (o_ k a) (λe=>h p e.symm a))
end
theorem bsl(d:Nat){N:Nat}{p:String}{af:Array Edge}{ops:Array Oper}{a:Act}{w:World}{K:Act->World->Prop}{Q:Exit->Act->World->Prop}{E:Prop}(b:N<=w.heap.size)(h:∀z g,g=w.heap.size->Hid (z.ownsRow N 9 1 (Sa (some ⟨g,0,none⟩) 0 0) 0 [])->Bw w z->K (a.put (some d) (Sa (some ⟨g,0,none⟩) 0 0)) z):if Region.wanted ⟨some d,.buildSlice 22 0 #[],22,p,af,none⟩ (yielded ops a.tmps)=true then Oper.wp prog ⟨some d,.buildSlice 22 0 #[],22,p,af,none⟩ a w K Q else E:=by
 go_simp;exact h _ w.heap.size rfl (row0 w 9 1 rfl b) U6
theorem c22(b:Bs)(q:Ba)(w:World)(hl:lg b 1048576)(hat:jh w b q):
 Calls prog 22 #[.agg (bsV b q).toArray] w λe w'=>(∃q',e=Sf (.agg (bsV b q').toArray)/\WC w.heap.size w' b q')/\Bw w w':=by
 have HA:=U0 hat;have HL:=U0 hl;clear hat hl
 go_in
 go_upto_region 1 with fail
 have H:Hid (BX w (bsV b q) ((w.alloc (Sg (bsV b q).toArray 47)).alloc (Sg bz.toArray 47))):=⟨E8 (I4 w (bsV b q) 47) _,Oh (xs:=bz) J4,U6.alloc J4 _,J4⟩;generalize (w.alloc (Sg (bsV b q).toArray 47)).alloc (Sg bz.toArray 47)=V at*;have HB:Hid (QD w V.heap.size (bsV b q) bz (V.alloc (Sg bz.toArray 47))):=have h:=H.o.call U6;⟨h.h0,h.h1,I4 V bz 47,h.bw,H.o.hz⟩
 go_upto_region 2 with(first|(refine D9 H.o.h0 rfl 47 _ rfl (j:=0) (bsV b q) rfl rfl underlying47 rfl Y0 ?_)|(refine N7 rfl 47 _ _ rfl (j:=0) rfl rfl HB.o.h2 A8 (X5 rfl) Y0 ?_;intro z cz oz))
 replace HB:Hid (QD w V.heap.size (bsV b q) (bsV b q) z):=HB.o.st cz oz
 clear cz oz H;generalize V.heap.size=M at*;have HM:Hid (M+1<=z.heap.size):=HB.o.h2.lt;have hll:=HL.o.ll;have hsl:=HL.o.sl
 try simp only[qq]
 go_cut[3] from 3 (λs3 wx=>∃a1 c1 a5 a6P,s3=Sd (some (aA M 0))/\Hid (QD w M (bsV b q) (bsV b {q with sa:=a1,sc:=c1,la:=a5,lc:=a6P}) wx)/\Hid (Kt (M+1) wx (λu=>u.ownsRow (M+1) 9 1 (vL a1 b.sf.length c1) b.sf.length (b.sf.map Sb)/\u.ownsRow (M+1) 9 1 (vL a5 b.lo.length a6P) b.lo.length (b.lo.map Sb)))/\Hid (NE (vL a1 b.sf.length c1) (vL a5 b.lo.length a6P)))
 case first=>
  have HC:Hid (∀u,Bw z u->u.cell? (aW w 5)=some (vL q.sa b.sf.length q.sc)/\u.cell? (aW w 6)=some (vL q.la b.lo.length q.lc)):=λu hu=>have h:=(HB.o.call hu).h0;⟨h.cell 5,h.cell 6⟩
  have bu:Bw z z.drew:=(O4 _ _).drew;refine mG HC bu Y0 λhH=>?_;generalize z.drew=y at*;refine tq 1 hH ?_;refine tq 2 hH ?_;refine tq 3 hH ?_;refine tq 6 hH ?_;refine tq 7 hH ?_;refine y_ 8 ?_
  iterate 4 (all_goals((first|refine an1 (λK hK=>?_)|refine an2 (λK hK=>?_) (λK hK=>?_));all_goals(
   (first
    | (refine bsl 6 bu.size ?_;intro Y g rfl O bb;(try have N:=U0 (sQ R5.o));(try replace R5:=U0 (own_below R5.o bb));have R1:=O;replace bu:=E5 bu bb)
    | (refine bsl 11 bu.size ?_;intro Y g rfl O bb;(try have N:=U0 (jG (sQ R1.o)));(try replace R1:=U0 (own_below R1.o bb));have R5:=O;replace bu:=E5 bu bb)
    | (refine Ob rfl (.tmp 6) _ 22 rfl z.heap.size 9 1 underlying22 DC U5 _ 0 [] rfl R1.o _ b.sf.length (b.sf.map Sb) rfl (Ez HA.o.sf (E5 HB.o.bw bu)) (Oe _) O0 bu.size ?_
       intro v4 Y O g e;rw[Y8,Y9]at O;obtain⟨a1,c1,rfl⟩:=H9 O
       try have N':=U0 (LQ N.o R5.o e)
       try replace R5:=U0 (oV R5.o N.o g)
       try replace N:=U0 N'.o
       replace bu:=Ib bu g bu.size (λk e=>X4 R1.o e)
       replace R1:=U0 O)
    | (refine Ob rfl (.tmp 11) _ 22 rfl z.heap.size 9 1 underlying22 DC U5 _ 0 [] rfl R5.o _ b.lo.length (b.lo.map Sb) rfl (Ez HA.o.lo (E5 HB.o.bw bu)) (Oe _) O0 bu.size ?_
       intro v4 Y O g e;rw[Y8,Y9]at O;obtain⟨a5,a6P,rfl⟩:=H9 O;have N':=U0 (LQ (jG N.o) R1.o e)
       replace R1:=U0 (oV R1.o (jG N.o) g)
       replace N:=U0 (jG N'.o)
       replace bu:=Ib bu g bu.size (λk e=>X4 R5.o e)
       replace R5:=U0 O))
   refine hK.o _ _ (HC.o _ bu) λhH=>?_;clear hK K
   try simp only[qq])))
  all_goals
   refine sq ?_;refine rq 11 λK hK=>?_;go_simp;refine G9 hK (HC.o _ bu) λhH=>?_;clear hK K;refine rq 12 λK hK=>?_;have H2:=U0 (HB.o.call bu);refine qc rfl 37 _ _ rfl (j:=5) rfl rfl H2.o.h2 (show 5+2<=15 by decide) (X5 rfl) Y0 ?_;intro z' cz oz;have HF:Hid (QD w M (bsV b q) (bsV b {q with sa:=a1,sc:=c1,la:=a5,lc:=a6P}) z'):=H2.o.st cz oz;have K1:=U0 (Z4 R1.o (λp hp=>oz.block p (by have:=X4 R1.o hp;have:=HM.o;omega)));have K5:=U0 (Z4 R5.o (λp hp=>oz.block p (by have:=X4 R5.o hp;have:=HM.o;omega)));clear H2 cz oz;refine G9 hK ⟨HF.o.h0.cell 5,HF.o.h0.cell 6⟩ λhH=>?_;clear hK K;refine wdn ?_
   go_wp2_with fail
   go_meet
   exact⟨_,_,_,_,rfl,HF,Nk (Ak (I7 K1.o HM.o)) (Ak (I7 K5.o HM.o)),N⟩
 obtain⟨a1,c1,a5,a6P,rfl,HB,KS,N⟩:=hcut
 go_wp2_with(refine D9 HB.o.h0 rfl 40 _ rfl (j:=7) [vL q.fa b.fs.length q.fc] rfl rfl underlying40 rfl Y0 ?_)
 refine(c68 q.fa b.fs q.fc wc HL.o.fl (T.J5 HA.o.fs HB.o.bw)).mono ?_;rintro e w3⟨⟨v3,rfl,o3⟩,hb⟩;obtain⟨a3,c3,rfl⟩:=H9 o3;have hz3:M+1<=wc.heap.size:=HB.o.h2.lt
 replace HB:=U0 (HB.o.call hb)
 replace KS:=U0 (Nk (KS.o.below hb) (Ak (I7 o3 hz3)))
 clear hb
 go_upto_region 4 with(refine N7 rfl 40 _ _ rfl (j:=7) rfl rfl HB.o.h2 J4 (X5 rfl) Y0 ?_;intro z3 cz oz)
 replace HB:Hid (QD w M (bsV b q) (bsV b {q with sa:=a1,sc:=c1,la:=a5,lc:=a6P,fa:=a3,fc:=c3}) z3):=HB.o.st cz oz
 replace KS:=U0 (KS.o.on oz (Vj _))
 clear cz oz
 go_wp2_with(refine D9 HB.o.h0 rfl 43 _ rfl (j:=8) [vI b.s.wd,vL q.ta b.s.ts.length q.tc,vL q.ra b.s.rs.length q.rc] rfl rfl underlying43 rfl Y0 ?_)
 refine(a5t b.s q.ta q.ra q.tc q.rc z3 HL.o.st.1.1 HL.o.st.2.1 (λi=>(HL.o.st.2.2 i).2.1) (HA.o.st.below HB.o.bw)).mono ?_;rintro e w4⟨⟨tv,rv,rfl,so⟩,hb⟩;obtain⟨a4,c4,rfl⟩:=H9 so.1;obtain⟨a6,c6_,rfl⟩:=H9 so.2.choose_spec.row;have N2:=U0 (ne_of KS.o.now.1.1 (so.1));have N3:=U0 (ne_of KS.o.now.1.2 (so.1));have hz4:M+1<=z3.heap.size:=HB.o.h2.lt
 replace HB:=U0 (HB.o.call hb)
 replace KS:=U0 (Nk (KS.o.below hb) ((Ij so hz4).kt))
 clear hb
 go_upto_region 5 with(refine N7 rfl 43 _ _ rfl (j:=8) rfl rfl HB.o.h2 J4 (X5 rfl) Y0 ?_;intro z4 cz oz)
 replace HB:Hid (QD w M (bsV b q) (bsV b {q with sa:=a1,sc:=c1,la:=a5,lc:=a6P,fa:=a3,fc:=c3,ta:=a4,tc:=c4,ra:=a6,rc:=c6_}) z4):=HB.o.st cz oz
 replace KS:=U0 (KS.o.on oz (Vj _))
 clear cz oz;have hhl:=HL.o.hl;obtain⟨W,hW⟩:∃W,W=z4.alloc (Sg #[] 3):=⟨_,rfl⟩;have bW:=hW▸U6;have RW:Hid (W.ownsRow z4.heap.size 3 1 (vL (some (aW z4 0)) 0 0) 0 []):=U0 (hW▸row0 z4 3 1 rfl (Y7 _));have CW:=U0 (HB.o.call bW).h0;have H1:=U0 (λv hv=>by obtain⟨x,_,rfl⟩:=Rh.1 hv;rfl : ∀v∈b.hd.map (Sc Se),v.oneCell'=true);have hz5:M+1<=z4.heap.size:=HB.o.h2.lt
 go_upto_region 6 with(first|(rw[<- hW];refine J7 CW.o rfl 31 _ rfl rfl rfl Y0 ?_)|(at_builtin;refine Lc rfl _ _ 31 rfl z4.heap.size 3 1 underlying31 a0i U5 _ 0 [] rfl RW.o _ b.hd.length (b.hd.map (Sc Se)) rfl (yI q.hc HA.o.hd W (E5 HB.o.bw bW)) H1.o O0 bW.size ?_;intro v1 y1 O1 g1 eX;clear eX;rw[Y8,Y9]at O1;obtain⟨a7,a6Q,rfl⟩:=H9 O1;have B1:=Ib bW g1 bW.size (λk e=>X4 RW.o e);replace HB:=U0 (HB.o.call B1);replace KS:=U0 (Nk (KS.o.below B1) (Ak (I7 O1 hz5)));have O1:=U0 O1;clear g1)|(refine Qc rfl 31 _ _ rfl (p:=11) rfl rfl Y0 HB.o.h2 (show 11<15 by decide) ?_;intro z5 cz oz))
 replace HB:Hid (QD w M (bsV b q) (bsV b {q with sa:=a1,sc:=c1,la:=a5,lc:=a6P,fa:=a3,fc:=c3,ta:=a4,tc:=c4,ra:=a6,rc:=c6_,ha:=a7,hc:=a6Q}) z5):=HB.o.st cz.o oz
 replace KS:=U0 (KS.o.on oz (Vj _))
 clear cz oz B1 RW CW H1;clear O1;have hrl:=HL.o.rl;obtain⟨W,hW⟩:∃W,W=z5.alloc (Sg #[] 9):=⟨_,rfl⟩;have bW:=hW▸U6;have RW:Hid (W.ownsRow z5.heap.size 9 1 (vL (some (aW z5 0)) 0 0) 0 []):=U0 (hW▸row0 z5 9 1 rfl (Y7 _));have CW:=U0 (HB.o.call bW).h0;have H1:=U0 (Oe _ : ∀v∈b.rt.map Sb,v.oneCell'=true);have hz6:M+1<=z5.heap.size:=HB.o.h2.lt
 go_upto_region 7 with(first|(rw[<- hW];refine J7 CW.o rfl 22 _ rfl rfl rfl Y0 ?_)|(at_builtin;refine Lc rfl _ _ 22 rfl z5.heap.size 9 1 underlying22 DC U5 _ 0 [] rfl RW.o _ b.rt.length (b.rt.map Sb) rfl ((λ(u:World) hu=>Ez (u:=u) (c:=q.oc) HA.o.rt hu) W (E5 HB.o.bw bW)) H1.o O0 bW.size ?_;intro v1 y1 O1 g1 eX;clear eX;rw[Y8,Y9]at O1;obtain⟨a8,c9_,rfl⟩:=H9 O1;have B1:=Ib bW g1 bW.size (λk e=>X4 RW.o e);have N4:=U0 (ne_of KS.o.now.1.1.1.1 O1);have N5:=U0 (ne_of KS.o.now.1.1.1.2 O1);have N6:=U0 (ne_of KS.o.now.1.2.1 O1);replace HB:=U0 (HB.o.call B1);replace KS:=U0 (Nk (KS.o.below B1) (Ak (I7 O1 hz6)));have O1:=U0 O1;clear g1)|(refine Qc rfl 22 _ _ rfl (p:=12) rfl rfl Y0 HB.o.h2 (show 12<15 by decide) ?_;intro z6 cz oz))
 replace HB:Hid (QD w M (bsV b q) (bsV b {q with sa:=a1,sc:=c1,la:=a5,lc:=a6P,fa:=a3,fc:=c3,ta:=a4,tc:=c4,ra:=a6,rc:=c6_,ha:=a7,hc:=a6Q,oa:=a8,oc:=c9_}) z6):=HB.o.st cz.o oz
 replace KS:=U0 (KS.o.on oz (Vj _))
 clear cz oz B1 RW CW H1;clear O1;obtain⟨W,hW⟩:∃W,W=z6.alloc (Sg #[] 119):=⟨_,rfl⟩;have bW:=hW▸U6;have RS:Hid (W.ownsRow z6.heap.size 119 6 (vL (some (aW z6 0)) 0 0) 0 []):=U0 (hW▸row0 z6 119 6 rfl (Y7 _));have hz7:M+1<=z6.heap.size:=HB.o.h2.lt
 replace HB:=U0 (HB.o.call bW)
 replace KS:=U0 (KS.o.below bW)
 go_upto_region 8 with(rw[<- hW];refine Qc rfl 44 _ _ rfl (p:=13) rfl rfl Y0 HB.o.h2 (show 13<15 by decide) ?_;intro z7 cz oz)
 clear hW bW;have hnl:=HL.o.nl;have RZ:Hid (z7.ownsRow (M+1) 119 6 (vL (some (aW z6 0)) 0 0) 0 []):=U0 (I7 (Z4 RS.o (λp hp=>oz.block p (by have:=X4 RS.o hp;omega))) hz7)
 replace HB:Hid (QD w M (bsV b q) (bsV {b with rn:=[]} {q with sa:=a1,sc:=c1,la:=a5,lc:=a6P,fa:=a3,fc:=c3,ta:=a4,tc:=c4,ra:=a6,rc:=c6_,ha:=a7,hc:=a6Q,oa:=a8,oc:=c9_,na:=some (aW z6 0),nc:=0}) z7):=HB.o.st cz.o oz
 replace KS:=U0 (KS.o.on oz (Vj _))
 clear cz oz RS hz7;obtain⟨P,KP,HP⟩:∃P:World->Prop,Hid (Kt (M+1) z7 P)/\Hid (P=_):=⟨_,KS,rfl⟩;clear KS
 go_upto_region 9 with fail
 go_loopw[4] (λi wr=>∃(r s:List Rn)(vs:List Value)(a9:Option Addr)(a6R:Nat),Hid (b.rn=r++s)/\i=Sc Se r.length/\Hid (QD w M (bsV b q) (bsV {b with rn:=r} {q with sa:=a1,sc:=c1,la:=a5,lc:=a6P,fa:=a3,fc:=c3,ta:=a4,tc:=c4,ra:=a6,rc:=c6_,ha:=a7,hc:=a6Q,oa:=a8,oc:=c9_,na:=a9,nc:=a6R}) wr)/\Hid (Kt (M+1) wr P)/\Hid (Az Td L9 Rn.ls xw 119 6 213 4 (M+1) r [] (Sa a9 r.length a6R) r.length vs wr)) (λi _=>b.rn.length-(RowKit.intOf i).toNat);exact⟨[],b.rn,[],some (aW z6 0),0,rfl,rfl,HB,KP,rfl,RZ.o,(λi hi=>absurd hi (U8 _)),(λ_ _=>rfl),(λi j hi=>absurd hi (U8 _))⟩;obtain⟨r,s,vs,a9,a6R,hrs,rfl,HB,KP,RS⟩:=hrel
 cases s with
 | nil=>
  have er:=hrs.o;rw[Vt]at er;obtain rfl:=er.symm
  go_upto_region 12 with(refine J7 HB.o.h0 rfl _ _ rfl rfl rfl Y0 ?_)
  have KS:=KP;have hjl:=HL.o.jl;clear KP;obtain⟨W,hW⟩:∃W,W=wr.alloc (Sg #[] 124):=⟨_,rfl⟩;have bW:=hW▸U6;have RW:Hid (W.ownsRow wr.heap.size 124 3 (vL (some (aW wr 0)) 0 0) 0 []):=U0 (hW▸row0 wr 124 3 rfl (Y7 _));have CW:=U0 (HB.o.call bW).h0;have H1:=U0 (Vu (is:=b.jb) (f:=Kq) (λx v hv=>by simp[Kq]at hv;rcases hv with rfl|rfl|rfl<;>rfl));have a8T:M+1<=wr.heap.size:=HB.o.h2.lt
  go_upto_region 13 with(first|(rw[<- hW];refine J7 CW.o rfl 45 _ rfl rfl rfl Y0 ?_)|(at_builtin;refine Lc rfl _ _ 45 rfl wr.heap.size 124 3 underlying45 (Jc Y0) U5 _ 0 [] rfl RW.o _ b.jb.length (b.jb.flatMap Kq) rfl (QI q.jc HA.o.jb W (E5 HB.o.bw bW)) H1.o O0 bW.size ?_;intro v1 y1 O1 g1 eX;clear eX;rw[Y8,Y9]at O1;obtain⟨a10,a6S,rfl⟩:=H9 O1;have B1:=Ib bW g1 bW.size (λk e=>X4 RW.o e);replace RS:=U0 (RS.o.keep (λq t hT _ _=>B1.block q (Ld hT)));replace HB:=U0 (HB.o.call B1);replace KS:=U0 (Nk (KS.o.below B1) (Ak (I7 O1 a8T)));have O1:=U0 O1;clear g1)|(refine Qc rfl 45 _ _ rfl (p:=14) rfl rfl Y0 HB.o.h2 (show 14<15 by decide) ?_;intro z8 cz oz))
  replace HB:Hid (QD w M (bsV b q) (bsV b {q with sa:=a1,sc:=c1,la:=a5,lc:=a6P,fa:=a3,fc:=c3,ta:=a4,tc:=c4,ra:=a6,rc:=c6_,ha:=a7,hc:=a6Q,oa:=a8,oc:=c9_,na:=a9,nc:=a6R,ja:=a10,jc:=a6S}) z8):=HB.o.st cz.o oz
  replace KS:=U0 (KS.o.on oz (Vj _))
  replace RS:=U0 (RS.o.keep (λq t _ _ hq=>oz.block q (by omega)))
  clear cz oz B1 RW CW H1;have HR:Hid (WC (M+1) z8 b {q with sa:=a1,sc:=c1,la:=a5,lc:=a6P,fa:=a3,fc:=c3,ta:=a4,tc:=c4,ra:=a6,rc:=c6_,ha:=a7,hc:=a6Q,oa:=a8,oc:=c9_,na:=a9,nc:=a6R,ja:=a10,jc:=a6S}):=by
   have kn:=KS.o.now.1;have k6:=KS.o.now.2;rw[HP.o]at kn;obtain⟨⟨⟨⟨⟨k1,k2⟩,k3⟩,k4⟩,k5⟩,k7⟩:=kn;exact { sf:=k1,lo:=k2,fs:=xH k3,st:=k4,hd:=k5,rt:=k7,rn:=⟨vs,RS.o.len,RS.o.row,RS.o.gl,λ_ _=>rfl,RS.o.apart⟩,jb:=k6,n1:=N.o,n2:=N2.o,n3:=N3.o,n4:=N4.o,n5:=N5.o,n6:=N6.o }
  clear KS RS HP;have hM:=HB.o.hM
  go_wp2_with(first|(refine D9 HB.o.h2 rfl 47 _ rfl (j:=0) (bsV b {q with sa:=a1,sc:=c1,la:=a5,lc:=a6P,fa:=a3,fc:=c3,ta:=a4,tc:=c4,ra:=a6,rc:=c6_,ha:=a7,hc:=a6Q,oa:=a8,oc:=c9_,na:=a9,nc:=a6R,ja:=a10,jc:=a6S}) rfl rfl underlying47 rfl Y0 ?_)|(refine N7 rfl 47 _ _ rfl (j:=0) rfl rfl HB.o.h1 A8 (X5 rfl) Y0 ?_;intro zz cq oq))
  exact P7 (l7 (P:=prog) (ty:=47) rfl _ zz (w.heap.size+1) (bsV b {q with sa:=a1,sc:=c1,la:=a5,lc:=a6P,fa:=a3,fc:=c3,ta:=a4,tc:=c4,ra:=a6,rc:=c6_,ha:=a7,hc:=a6Q,oa:=a8,oc:=c9_,na:=a9,nc:=a6R,ja:=a10,jc:=a6S}) _ rfl cq.blk underlying47 rfl Y0) rfl ⟨⟨{q with sa:=a1,sc:=c1,la:=a5,lc:=a6P,fa:=a3,fc:=c3,ta:=a4,tc:=c4,ra:=a6,rc:=c6_,ha:=a7,hc:=a6Q,oa:=a8,oc:=c9_,na:=a9,nc:=a6R,ja:=a10,jc:=a6S},rfl,HR.o.mv (.on oq (.inl (by omega))) (by omega)⟩,HB.o.bw.trans (oq.below O0)⟩
 | cons x s=>
  have hlr:r.length<b.rn.length:=by rw[hrs.o];simp
  go_upto_region 11 with(refine J7 HB.o.h0 rfl _ _ rfl rfl rfl Y0 ?_)
  have hgx:b.rn.getD r.length L9=x:=by rw[hrs.o];simp[List.getD]
  rcases HA.o.rn with h0|⟨bb,off,hqa,hbb,h3⟩
  ·rw[h0]at hlr;exact absurd hlr (U8 _)
  obtain⟨ai,ci,k1,k2⟩:=h3 r.length hlr;rw[hgx]at k1 k2;have hxl:=(HL.o.ns r.length).2.2.1.1;rw[hgx]at hxl;have HQA:=U0 hqa;have K2:=U0 k2;have HC:Hid (∀u,QD w M (bsV b q) (bsV {b with rn:=r} {q with sa:=a1,sc:=c1,la:=a5,lc:=a6P,fa:=a3,fc:=c3,ta:=a4,tc:=c4,ra:=a6,rc:=c6_,ha:=a7,hc:=a6Q,oa:=a8,oc:=c9_,na:=a9,nc:=a6R}) u->u.cell? (aA M 13)=some (vL a9 r.length a6R)/\u.cell? (aW w 13)=some (vL (some (aA bb off)) b.rn.length q.nc)/\Hid (∀i v,(Td (x,vL ai x.ls.length ci))[i]?=some v->u.cell? (aA bb (off+r.length*6+i))=some v)):=λu hu=>⟨hu.h2.cell 13,by have h:=hu.h0.cell 13;rw[h,<- HQA.o];rfl,λi v e=>(hu.bw.cell (by exact hbb)).trans (k1 i v e)⟩;have hRN:=HB.o.hM;have hRL:=HB.o.h2.lt;clear k1 k2 h3 hqa hgx;have hd:Bw wr wr.drew:=(O4 _ _).drew;refine Cf 11 (S:=λu=>u.cell? (aA M 13)=some (vL a9 r.length a6R)/\u.cell? (aW w 13)=some (vL (some (aA bb off)) b.rn.length q.nc)/\Hid (∀i v,(Td (x,vL ai x.ls.length ci))[i]?=some v->u.cell? (aA bb (off+r.length*6+i))=some v)) Y0 (HC.o _ (HB.o.call hd)) λhH=>?_
  iterate 6 refine TV ?_
  try simp only[qq]
  refine lq 6 hH ?_ (hv:=λu hu=>N9 119 _ rfl (B:=bb) (j:=off+r.length*6) (cs:=Td (x,vL ai x.ls.length ci)) rfl hu.2.2.o underlying119 rfl Y0)
  try simp only[qq]
  refine SC 7 λK hK=>?_;go_simp;refine(c70 x ai ci wr.drew hxl (Q7 K2.o (E5 HB.o.bw hd))).mono ?_;rintro e y1⟨⟨a',c',rfl,ho⟩,hb⟩;have OX:=U0 ho;have hb1:=U0 hb;have b1:=hd.trans (hb.mono A8);clear ho hb;go_simp;refine G9 hK (HC.o _ (HB.o.call b1)) λhH=>?_;clear hK K;refine SC 8 λK hK=>?_;go_simp;have HS:=U0 (I4 y1 (Td (x,vL a' x.ls.length c')) 119);have hba:=U0 (U6 (w:=y1) (o:=Sg (Td (x,vL a' x.ls.length c')).toArray 119));have b2:=E5 b1 hba.o;change K _ (y1.alloc (Sg (Td (x,vL a' x.ls.length c')).toArray 119));refine G9 hK (HC.o _ (HB.o.call b2)) λhH=>?_;clear hK K;generalize y1.alloc (Sg (Td (x,vL a' x.ls.length c')).toArray 119)=y2 at*;have H4:=U0 (HB.o.call b2);have K4:=U0 (KP.o.below b2);have R4:=U0 (own_below RS.o.row b2);have a9p:r.length+1<=1048576:=by have:=HL.o.nl;omega
  have hM2:=X7 hRL b2.size;clear HB KP;refine SC 9 λK hK=>?_;refine Ob rfl _ _ 44 rfl (M+1) 119 6 underlying44 (Jc Y0) U5 _ r.length (cE Td L9 r vs) rfl R4.o _ 1 (Td (x,vL a' x.ls.length c')) rfl (.inr ⟨(aW y1 0),1,rfl,rfl,yh HS.o⟩) (X5 rfl) O0 hM2 ?_;intro v' w6 O6 g6 hv6;obtain⟨a10,a6S,rfl⟩:=x9 O6;have RP:Hid (Az Td L9 Rn.ls xw 119 6 213 4 (M+1) (r++[x]) [] (vL a10 (r++[x]).length a6S) (r++[x]).length (vs++[vL a' x.ls.length c']) w6):=U0 (by
   rw[show vL a10 (r++[x]).length a6S=vL a10 (r.length+1) a6S from by simp];exact RS.o.push U5 (Nat.succ_le_of_lt hRL) b1 (by have h:=OX.o;simpa using h) hba.o g6 O6)
  have H6:Hid (QD w M (bsV b q) (bsV {b with rn:=r} {q with sa:=a1,sc:=c1,la:=a5,lc:=a6P,fa:=a3,fc:=c3,ta:=a4,tc:=c4,ra:=a6,rc:=c6_,ha:=a7,hc:=a6Q,oa:=a8,oc:=c9_,na:=a9,nc:=a6R}) w6):=⟨(g6.block _ H4.o.h0.lt (λe=>by have:=X4 R4.o e.symm;omega)).trans H4.o.h0,(g6.block _ H4.o.h1.lt (λe=>by have:=X4 R4.o e.symm;omega)).trans H4.o.h1,(g6.block _ H4.o.h2.lt (λe=>by have:=X4 R4.o e.symm;omega)).trans H4.o.h2,Ib H4.o.bw g6 H4.o.bw.size (λk hk=>by have:=X4 R4.o hk;omega),H4.o.hM⟩;have K6:=U0 (K4.o.next g6.size (λp t hT ht hp=>g6.block p (Ld hT) (λe=>ht (N8 hT (X6 R4.o e.symm)))));clear O6 g6 hv6 H4 K4 R4 RS OX HS hba hb1 b1 b2;refine G9 hK (HC.o _ H6.o) λhH=>?_;clear hK K;refine TV ?_;refine lzq λK hK=>?_;refine uo rfl (Ql 44 _ _ rfl (B:=M) (j:=13) rfl rfl ⟨_,H6.o.h2.cell 13⟩ (H6.o.h2.opn 13) Y0) ?_;have hs:=u_ w6 M 13 (vL a10 (r.length+1) a6S);have H7:Hid (QD w M (bsV b q) (bsV {b with rn:=r++[x]} {q with sa:=a1,sc:=c1,la:=a5,lc:=a6P,fa:=a3,fc:=c3,ta:=a4,tc:=c4,ra:=a6,rc:=c6_,ha:=a7,hc:=a6Q,oa:=a8,oc:=c9_,na:=a10,nc:=a6S}) (w6.setCell (aA M 13) (vL a10 (r.length+1) a6S))):=U0 (H6.o.st (by
   have h:=H6.o.h2.set 13 (vL a10 (r.length+1) a6S);unfold bsV;rw[show(r++[x]).length=r.length+1 by simp];exact h) hs)
  replace K6:=U0 (K6.o.on hs (Vj _))
  replace RP:=U0 (RP.o.keep (λp t _ _ hp=>hs.block p (by omega)))
  change K _ (w6.setCell (aA M 13) (vL a10 (r.length+1) a6S));clear H6 hs;generalize w6.setCell (aA M 13) (vL a10 (r.length+1) a6S)=w7 at*;refine hK.o _ _ ?_;clear hK K
  try simp only[qq]
  refine Ah Y0 ?_ _;go_wp2;go_roundw;exact⟨r++[x],s,_,a10,a6S,U0 (by rw[hrs.o];simp),by simp,H7,K6,RP⟩;exact V9
