import Derived.Test.YtdgneicbmalnpaaGreatDoorzB
set_option linter.all false
set_option maxHeartbeats 0
set_option maxRecDepth 99999
open Go.Value renaming slice->Sa,string->Sb,int->Sc,pointer->Sd
open Go.IntKind renaming i64->Se
open Go.Obj renaming cells->Sg
namespace Go.Proofs.YtdgneicbmalnpaaGreatDoor
open Proofs.Tryz Go.RowKit
variable{α:Type}{w:World}{a:OA}
theorem Vq{is:List α}{d:α}{f:α->List Value}{m:Nat}(c:Nat)(hf:∀x,(f x).length=m)(hm:0<m)(h:is=[]\/∃b off,a=some ⟨b,off,none⟩/\b<w.heap.size/\∀i,i<is.length->∀q v,(f (is.getD i d))[q]?=some v->w.cell? ⟨b,off+(i*m+q),none⟩=some v)(u:World)(k:Bw w u):Src u (Sa a is.length c) m is.length (is.flatMap f):=by
 rcases h with rfl|⟨b,off,rfl,o,h⟩
 ·exact XK
 refine .inr ⟨_,c,rfl,Hg hf is,λj x hx=>?_⟩;have n:j<is.length*m:=by have:=(ah.1 hx).1;rwa[Hg hf]at this
 have g:=(Nat.div_lt_iff_lt_mul hm).2 n;have l:j % m<m:=MF _ hm;have e:j/m*m+j % m=j:=by rw[UE];exact EK j m
 have hl:j % m<(f (is.getD (j/m) d)).length:=by rw[hf];exact l
 have h1:=h (j/m) g (j % m) _ (V8 hl);have h2:=Gf (d:=d) hf is (j/m) g (j % m) _ (V8 hl);rw[e]at h1 h2;rw[qo,k.cell (by exact o),h1,<- h2,hx]
theorem Vu{is:List α}{f:α->List Value}(h:∀x,∀v∈f x,v.oneCell'=true):∀v∈is.flatMap f,v.oneCell'=true:=λv hv=>by
 obtain⟨x,_,hx⟩:=Ox.1 hv;exact h x v hx
theorem rQ(f:α->Value)(l:List α):l.map f=l.flatMap λx=>[f x]:=by
 induction l with
 | nil=>rfl
 | cons x l ih=>rw[Xq,Xf,ih];rfl
theorem nD{fs:List T.F2}(c:Nat)(h:T.P6 w a fs):∀u,Bw w u->Src u (Sa a fs.length c) 2 fs.length (T.J3 fs):=
 Vq (d:=T.o9) c (λ_=>rfl) U5 (h.imp id λ⟨b,off,h1,h2,k⟩=>⟨b,off,h1,h2,λi j q v e=>by
  obtain⟨g,f⟩:=k i j;rw[<- Qw];rcases q with _|_|q
  ·cases e;exact g
  ·cases e;exact f
  cases e⟩)
theorem yI{is:List Int}(c:Nat)(h:Zf w a is):∀u,Bw w u->Src u (Sa a is.length c) 1 is.length (is.map (Sc Se)):=by
 rw[rQ];exact Vq (d:=0) c (λ_=>rfl) U5 (h.imp id λ⟨b,off,h1,h2,g⟩=>⟨b,off,h1,h2,λi f q v e=>by
  rcases q with _|q
  ·cases e;rw[Pm];exact g i f
  cases e⟩)
theorem QI{is:List Jb}(c:Nat)(h:Qj w a is):∀u,Bw w u->Src u (Sa a is.length c) 3 is.length (is.flatMap Kq):=
 Vq (d:=Ea) c (λ_=>rfl) U5 (h.imp id λ⟨b,off,h1,h2,g⟩=>⟨b,off,h1,h2,λi f q v e=>by rw[<- Qw];exact g i f q v e⟩)
theorem dD{is:List L4}(c:Nat)(h:O9 w a is):∀u,Bw w u->Src u (Sa a is.length c) 4 is.length (is.flatMap xw):=
 Vq (d:=K_) c (λ_=>rfl) U5 (h.imp id λ⟨b,off,h1,h2,m⟩=>⟨b,off,h1,h2,λi l q v e=>by
  obtain⟨k,j,g,f⟩:=m i l;rw[<- Qw];rcases q with _|_|_|_|q
  ·cases e;exact k
  ·cases e;exact j
  ·cases e;exact g
  ·cases e;exact f
  cases e⟩)
theorem a6z(a:OA)(fs:List T.F2)(c:Nat)(w:World)(m:fs.length<=1048576)(h:T.P6 w a fs):
 Calls prog 180 #[.agg #[Sa a fs.length c]] w λe w'=>(∃v,e=.returned (.agg #[v])/\w'.ownsRow w.heap.size 169 2 v fs.length (T.J3 fs))/\Bw w w':=by
 have p:=U0 (nD c h);clear h
 go_in
 go_upto_region 1 with fail
 have r:Hid (Cl ((w.alloc (Sg #[vL a fs.length c] 40)).alloc (Sg #[vN] 40)) w.heap.size 40 [vL a fs.length c]):=E8 (I4 w [_] 40) _;have b:Hid (Cl ((w.alloc (Sg #[vL a fs.length c] 40)).alloc (Sg #[vN] 40)) (w.heap.size+1) 40 [vN]):=Oh (xs:=[_]) J4;have i:Hid (Bw w ((w.alloc (Sg #[vL a fs.length c] 40)).alloc (Sg #[vN] 40))):=U6.alloc J4 _;have hz:w.heap.size+2<=((w.alloc (Sg #[vL a fs.length c] 40)).alloc (Sg #[vN] 40)).heap.size:=J4;generalize (w.alloc (Sg #[vL a fs.length c] 40)).alloc (Sg #[vN] 40)=V at*
 go_wp2_with(refine J7 r.o rfl _ _ rfl rfl rfl Y0 ?_)
 refine(a3M _ fs.length (T.J3 fs) V m T.Be (λu k=>p.o u (E5 i.o k))).mono ?_;rintro e w1⟨⟨v,rfl,ho⟩,d⟩;obtain⟨a1,o,rfl⟩:=H9 ho;have g:=U0 ho;have s:=U0 (E5 i.o d)
 replace b:=U0 (b.o.below d b.o.lt)
 clear ho d
 go_wp2_with(refine N7 rfl 40 _ _ rfl (j:=0) rfl rfl b.o A8 (X5 rfl) Y0 ?_;intro z n f)
 refine P7 (l7 (P:=prog) (ty:=40) rfl _ z (w.heap.size+1) [vL a1 fs.length o] _ rfl n.blk underlying40 rfl Y0) rfl ⟨⟨_,rfl,?_⟩,s.o.trans (f.below O0)⟩;exact I7 (Z4 g.o (λq l=>f.block q (by have:=X4 g.o l;omega))) O0
theorem fJ{base g e size n c:Nat}{xs:List Value}(h:w.ownsRow base e size (Sa (some ⟨g,0,none⟩) n c) n xs):∃ys,Cl w g e ys/\n*size<=ys.length:=by
 rcases h.2 with⟨hv,_⟩|⟨g',cap,cur,hv,hb,b,a,_,d,_⟩
 ·cases hv
 cases hv
 exact⟨cur.toList,by unfold Cl;rw[b],by rw[Array.length_toList,d];exact Nat.mul_le_mul_right _ a⟩
theorem a4T(s:St)(ta ra:OA)(tc rc:Nat)(w:World)(htl:s.ts.length<=1048576)(hrl:s.rs.length<=1048576)(hgl:∀i,(s.rs.getD i d_).gs.length<=1048576)(hst:xh w ta ra s):
 Calls prog 181 #[.agg #[Sc Se s.wd,Sa ta s.ts.length tc,Sa ra s.rs.length rc]] w λe w'=>(∃tv rv,e=.returned (.agg #[Sc Se s.wd,tv,rv])/\W_ w' w.heap.size s.ts s.rs tv rv)/\Bw w w':=by
 have HT:=U0 (λu f=>Ez (c:=tc) hst.1 (u:=u) f);obtain⟨vs0,hv0,hsr,hgv⟩:=zQ (E:=NJ) (m:=3) (j:=1) (inn:=R3.gs) (LS:=R_) rc (λ_=>rfl) U5 (λ_=>rfl) (nZ hst.2);have HR:=U0 hsr;have HG:=U0 hgv;have HGL:=U0 hgl
 go_in
 go_upto_region 1 with fail
 have L:Hid (Cl ((w.alloc (Sg #[vI s.wd,vL ta s.ts.length tc,vL ra s.rs.length rc] 43)).alloc (Sg #[vO,vN,vN] 43)) w.heap.size 43 [vI s.wd,vL ta s.ts.length tc,vL ra s.rs.length rc]):=E8 (I4 w [_,_,_] 43) _;have C1:Hid (Cl ((w.alloc (Sg #[vI s.wd,vL ta s.ts.length tc,vL ra s.rs.length rc] 43)).alloc (Sg #[vO,vN,vN] 43)) (w.heap.size+1) 43 [vO,vN,vN]):=Oh (xs:=[_,_,_]) J4;have B0:Hid (Bw w ((w.alloc (Sg #[vI s.wd,vL ta s.ts.length tc,vL ra s.rs.length rc] 43)).alloc (Sg #[vO,vN,vN] 43))):=U6.alloc J4 _;have hz:w.heap.size+2<=((w.alloc (Sg #[vI s.wd,vL ta s.ts.length tc,vL ra s.rs.length rc] 43)).alloc (Sg #[vO,vN,vN] 43)).heap.size:=J4;generalize (w.alloc (Sg #[vI s.wd,vL ta s.ts.length tc,vL ra s.rs.length rc] 43)).alloc (Sg #[vO,vN,vN] 43)=V at*
 go_wp2_with(refine J7 L.o rfl _ _ rfl rfl rfl Y0 ?_)
 refine(JM _ s.ts.length (s.ts.map Sb) V htl (Oe _) (λu f=>HT.o u (E5 B0 f))).mono ?_;rintro e w1⟨⟨v,rfl,ho⟩,b⟩;obtain⟨a1,Q,rfl⟩:=H9 ho;have HO:=U0 (I7 ho hz);have B1:=U0 (E5 B0 b);have z1:=b.size
 replace L:=U0 (L.o.below b L.o.lt)
 replace C1:=U0 (C1.o.below b C1.o.lt)
 go_upto_region 2 with(refine Qc rfl 22 _ _ rfl (p:=1) rfl rfl Y0 L.o J4 ?_;intro z I N)
 have B2:=U0 (B1.o.trans (N.below A8));have Y:=U0 (Z4 HO (λq l=>N.block q (by have:=X4 HO.o l;omega)));have Z:=U0 (C1.o.on N O0);have z2:=N.size
 go_wp2_with(refine J7 I.o rfl _ _ rfl rfl rfl Y0 ?_)
 refine(a3L _ s.rs.length (cE NJ d_ s.rs vs0) z hrl (TQ (λx a n c u f=>by simp[NJ]at f;rcases f with rfl|rfl|rfl<;>rfl) (λi F=>by obtain⟨U,O,e,_⟩:=HG.o i F;exact⟨_,_,_,e⟩)) (λu f=>HR.o u (E5 B2 f))).mono ?_;rintro e w3⟨⟨v,rfl,ho⟩,b⟩;obtain⟨W,c3,rfl⟩:=H9 ho;have z3:=b.size;have RO:=U0 (I7 ho (show w.heap.size+2<=z.heap.size by omega))
 replace I:=U0 (I.o.below b I.o.lt)
 replace Z:=U0 (Z.o.below b Z.o.lt)
 replace B2:=U0 (E5 B2 b)
 replace Y:=U0 (own_below Y b)
 go_upto_region 3 with(refine Qc rfl 41 _ _ rfl (p:=2) rfl rfl Y0 I.o J4 ?_;intro y cy D)
 have B3:=U0 (B2.o.trans (D.below A8));have O3:=U0 (Z4 Y (λq l=>D.block q (by have:=X4 Y.o l;omega)));have R3_:=U0 (Z4 RO (λq l=>D.block q (by have:=X4 RO.o l;omega)));have D3:=U0 (Z.o.on D O0);have z4:=D.size
 go_wp2_with(refine J7 cy.o rfl _ _ rfl rfl rfl Y0 ?_)
 go_loopw[15] (λi wr=>∃(k:Nat)(vs:List Value),k<=s.rs.length/\i=Sc Se k/\Hid (Cl wr w.heap.size 43 [Sc Se s.wd,Sa a1 s.ts.length Q,Sa W s.rs.length c3])/\Hid (Cl wr (w.heap.size+1) 43 [Sc Se 0,Sa none 0 0,Sa none 0 0])/\Hid (wr.ownsRow (w.heap.size+2) 9 1 (Sa a1 s.ts.length Q) s.ts.length (s.ts.map Sb))/\Hid (Az NJ d_ R3.gs jQ 179 3 235 3 (w.heap.size+2) s.rs vs0 (Sa W s.rs.length c3) k vs wr)/\Below w.heap.size w wr/\w.heap.size+2<=wr.heap.size) (λi _=>s.rs.length-(RowKit.intOf i).toNat);exact⟨0,vs0,Y4 _,rfl,cy,D3,O3,⟨hv0,R3_.o,λi F=>absurd F (U8 _),λ_ _=>rfl,λi j F=>absurd F (U8 _)⟩,B3.o,O0⟩;obtain⟨k,vs,hk,rfl,J,CB,X,RS,bw,hzr⟩:=hrel;by_cases hlt:k<s.rs.length;rotate_left
 ·obtain rfl:k=s.rs.length:=O0;have RW:Hid (Bg wr (w.heap.size+2) (vL W s.rs.length c3) s.rs vs):=⟨RS.o.len,RS.o.row,RS.o.gl,RS.o.apart⟩
  go_wp2_with(first|(refine yc J.o rfl 43 _ rfl rfl underlying43 rfl Y0 ?_)|(refine N7 rfl 43 _ _ rfl (j:=0) rfl rfl CB.o A8 (X5 rfl) Y0 ?_;intro zz cq oq))
  refine P7 (l7 (P:=prog) (ty:=43) rfl _ zz (w.heap.size+1) [vI s.wd,vL a1 s.ts.length Q,vL W s.rs.length c3] _ rfl cq.blk underlying43 rfl Y0) rfl ⟨⟨_,_,rfl,?_⟩,bw.trans (oq.below O0)⟩;refine⟨I7 (Z4 X (λq l=>oq.block q (by have:=X4 X.o l;omega))) O0,vs,?_⟩;exact a4c (RW.o.keep (λq t _ _ l=>oq.block q O0)) O0
 have q1:=Xj (E:=NJ) (d:=d_) (is:=s.rs) (vs:=vs) (m:=3) (j:=1) (λ_=>rfl) hlt U5;obtain⟨g,c3',e3,hg,hc⟩:=Df RS.o.row q1;injection e3 with e3 _ e4;subst e3 e4;obtain⟨U,O,hv,hga⟩:=HG.o k hlt;rw[RS.o.old k (Y7 _),hv]at hc;have HA:=U0 hga;have hgN:=X4 RS.o.row (k:=g) rfl;have NX:Hid (∀(u:World)(a:OA)(R:Nat),Bw wr u->u.ownsRow wr.heap.size 235 3 (vL a (s.rs.getD k d_).gs.length R) (s.rs.getD k d_).gs.length (gC (s.rs.getD k d_).gs)->Az NJ d_ R3.gs jQ 179 3 235 3 (w.heap.size+2) s.rs vs0 (vL (some (aA g 0)) s.rs.length c3) (k+1) (vs.set k (vL a (s.rs.getD k d_).gs.length R)) (u.setCell (aA g (k*3+1)) (vL a (s.rs.getD k d_).gs.length R))):=λu a R b ho=>RS.o.next (j:=1) (λ_=>rfl) (λ_ _ _=>rfl) U5 U5 hlt b ho;have hxl:=HGL.o k;obtain⟨ys,CG,hyl⟩:=fJ RS.o.row;have hCG:=U0 CG;generalize s.rs.getD k d_=x at*
 go_upto_region 6 with fail
 have HC:Hid (∀u,Bw wr u->u.cell? (aW w 2)=some (vL (some (aA g 0)) s.rs.length c3)/\u.cell? (aA g (k*3+1))=some (vL U x.gs.length O)):=λu f=>⟨(J.o.below f J.o.lt).cell 2,(f.cell hg).trans hc⟩;have hd:Bw wr wr.drew:=(O4 _ _).drew;refine Cf 12 (S:=λu=>u.cell? (aW w 2)=some (vL (some (aA g 0)) s.rs.length c3)/\u.cell? (aA g (k*3+1))=some (vL U x.gs.length O)) Y0 (HC _ hd) λhH=>?_
 iterate 9 refine TV ?_
 refine SC 9 λK H=>?_;go_simp;refine(a2K U O _ _ hxl (y9 HA (E5 bw hd))).mono ?_;rintro e C⟨⟨A,r,rfl,ho⟩,b⟩;have o:=hd.trans (b.mono A8);have ho':=ho;go_simp;refine G9 H (HC _ o) λhH=>?_;refine SC 10 λK H=>?_;go_simp;refine G9 H (HC _ o) λhH=>?_;refine TV ?_;refine lzq λK H=>?_;have CG5:=U0 (hCG.o.below o hg);refine uo rfl (Ql 177 _ _ rfl (B:=g) (j:=k*3+1) rfl rfl ⟨_,by rw[CG5.o.cell,V8 (show k*3+1<ys.length by omega)]⟩ (CG5.o.opn _) Y0) ?_;change K _ (C.setCell (aA g (k*3+1)) (vL A x.gs.length r));have N5:=U0 (NX.o _ _ _ o (by have h:=ho;simpa using h));have hs:=u_ C g (k*3+1) (vL A x.gs.length r);have CA5:=U0 ((J.o.below o J.o.lt).on hs O0);have CB5:=U0 ((CB.o.below o CB.o.lt).on hs O0);have OT5:Hid ((C.setCell (aA g (k*3+1)) (vL A x.gs.length r)).ownsRow (w.heap.size+2) 9 1 (vL a1 s.ts.length Q) s.ts.length (s.ts.map Sb)):=Z4 (own_below X o) (λq l=>hs.block q (λe=>by
  subst e;have:=N8 (X6 (own_below X.o o) l) (CG5.o.t);cases this))
 have b6:=(E5 bw o).setCell (p:=(aA g (k*3+1))) (by show w.heap.size<=g;omega) (vL A x.gs.length r);have z6:wr.heap.size<=(C.setCell (aA g (k*3+1)) (vL A x.gs.length r)).heap.size:=by have:=o.size;simp;omega
 generalize C.setCell (aA g (k*3+1)) (vL A x.gs.length r)=w6 at*;refine H _ _ ?_
 try simp only[qq]
 refine Ah Y0 ?_ _;go_wp2;go_roundw;exact⟨k+1,_,O0,by go_num,CA5,CB5,OT5,N5,b6,O0⟩;exact V9
structure BX(w:World)(X:List Value)(V:World):Prop where
 h0:Cl V w.heap.size 47 X
 h1:Cl V (w.heap.size+1) 47 bz
 bw:Bw w V
 hz:w.heap.size+2<=V.heap.size
section
variable{w V u z:World}{X X' xs:List Value}{A m n:Nat}{e:TypeId}{v:Value}{P Q:World->Prop}
theorem BX.call(h:BX w X V)(a:Bw V u):BX w X u:=⟨h.h0.below a h.h0.lt,h.h1.below a h.h1.lt,E5 h.bw a,X7 h.hz a.size⟩
theorem BX.st(h:BX w X V)(b:Cl z w.heap.size 47 X')(a:Jr w.heap.size V z):BX w X' z:=⟨b,h.h1.on a (by omega),h.bw.trans (a.below A8),by rw[a.size];exact h.hz⟩
def Kt(A:Nat)(w:World)(P:World->Prop):Prop:=∀u:World,w.heap.size<=u.heap.size->(∀q t,oh w q t->t≠119->A<=q->u.heap[q]?=w.heap[q]?)->P u
theorem Kt.now(h:Kt A w P):P w:=h w (Y7 _) (λ_ _ _ _ _=>rfl)
theorem Kt.next(h:Kt A w P)(hs:w.heap.size<=u.heap.size)(hk:∀q t,oh w q t->t≠119->A<=q->u.heap[q]?=w.heap[q]?):Kt A u P:=λz h1 h2=>h z (X7 hs h1) (λq t hT ht a=>(h2 q t (by obtain⟨c,f,e⟩:=hT;exact⟨c,f,(hk q t ⟨c,f,e⟩ ht a).trans e⟩) ht a).trans (hk q t hT ht a))
theorem Kt.below(h:Kt A w P)(a:Bw w u):Kt A u P:=h.next a.size (λq t hT _ _=>a.block q (Ld hT))
theorem Kt.on{B:Nat}(h:Kt A w P)(ho:Jr B w u)(hB:B<A):Kt A u P:=h.next (Vf ho.size.symm) (λq t hT _ hq=>ho.block q (by omega))
theorem Kt.on1{B:Nat}(h:Kt A w P)(ho:Jr B w u)(hB:oh w B 119):Kt A u P:=h.next (Vf ho.size.symm) (λq t hT ht hq=>ho.block q (λe=>ht (by subst e;exact N8 hT hB)))
theorem Ak(h:w.ownsRow A e m v n xs)(he:e≠119:=by decide):Kt A w (λu=>u.ownsRow A e m v n xs):=λu _ h2=>Z4 h (λq a=>h2 q e (X6 h a) he (X4 h a))
theorem Nk(h:Kt A w P)(k:Kt A w Q):Kt A w (λu=>P u/\Q u):=λu h1 h2=>⟨h u h1 h2,k u h1 h2⟩
theorem W_.kt{ts:LB}{rs:List R3}{tv rv:Value}(h:W_ w A ts rs tv rv):Kt A w (λu=>W_ u A ts rs tv rv):=λu _ h2=>⟨Z4 h.1 (λq a=>h2 q 9 (X6 h.1 a) U5 (X4 h.1 a)),by
 obtain⟨vs,k⟩:=h.2;exact⟨vs,k.keep (λq t hT ht a=>h2 q t hT (by rcases ht with rfl|rfl<;>decide) a)⟩⟩
end
def NE(v v':Value):Prop:=∀p,v.ownBlock=some p->v'.ownBlock≠some p
theorem ne_of{w u:World}{A e b m m' n a:Nat}{v v':Value}{xs xs':List Value}(h:w.ownsRow A e m v n xs)(k:u.ownsRow w.heap.size b m' v' a xs'):NE v v':=λp h1 h2=>by
 have:=o_ h h1;have:=X4 k h2;omega
structure WC(A:Nat)(u:World)(b:Bs)(q:Ba):Prop where
 sf:u.ownsRow A 9 1 (Sa q.sa b.sf.length q.sc) b.sf.length (b.sf.map Sb)
 lo:u.ownsRow A 9 1 (Sa q.la b.lo.length q.lc) b.lo.length (b.lo.map Sb)
 fs:T.Wn A u q.fa b.fs
 st:W_ u A b.s.ts b.s.rs (Sa q.ta b.s.ts.length q.tc) (Sa q.ra b.s.rs.length q.rc)
 hd:u.ownsRow A 3 1 (Sa q.ha b.hd.length q.hc) b.hd.length (b.hd.map (Sc Se))
 rt:u.ownsRow A 9 1 (Sa q.oa b.rt.length q.oc) b.rt.length (b.rt.map Sb)
 rn:∃vs,Az Td L9 Rn.ls xw 119 6 213 4 A b.rn vs (Sa q.na b.rn.length q.nc) b.rn.length vs u
 jb:u.ownsRow A 124 3 (Sa q.ja b.jb.length q.jc) b.jb.length (b.jb.flatMap Kq)
 n1:NE (Sa q.sa b.sf.length q.sc) (Sa q.la b.lo.length q.lc)
 n2:NE (Sa q.sa b.sf.length q.sc) (Sa q.ta b.s.ts.length q.tc)
 n3:NE (Sa q.la b.lo.length q.lc) (Sa q.ta b.s.ts.length q.tc)
 n4:NE (Sa q.sa b.sf.length q.sc) (Sa q.oa b.rt.length q.oc)
 n5:NE (Sa q.la b.lo.length q.lc) (Sa q.oa b.rt.length q.oc)
 n6:NE (Sa q.ta b.s.ts.length q.tc) (Sa q.oa b.rt.length q.oc)
def Fq(A:Nat)(w u:World):Prop:=w.heap.size<=u.heap.size/\∀p t,oh w p t->(t≠47/\t≠139)->A<=p->u.heap[p]?=w.heap[p]?
theorem Fq.below{A:Nat}{w u:World}(h:Bw w u):Fq A w u:=⟨h.size,λp t hT _ _=>h.block p (Ld hT)⟩
theorem Fq.on{A B:Nat}{w u:World}(h:Jr B w u)(hB:B<A\/oh w B 47):Fq A w u:=⟨Vf h.size.symm,λp t hT ht hp=>h.block p (λe=>by
 rcases hB with h1|h1
 ·omega
 subst e;exact ht.1 (N8 hT h1))⟩
theorem Gu{w u:World}{A A' e m n:Nat}{v:Value}{xs:List Value}(h:w.ownsRow A e m v n xs)(hk:Fq A w u)(hA:A'<=A)(he:e≠47/\e≠139:=by decide):u.ownsRow A' e m v n xs:=I7 (Z4 h (λq a=>hk.2 q e (X6 h a) he (X4 h a))) hA
theorem Az.mv{α β:Type}{E:α×Value->List Value}{d:α}{inn:α->List β}{f:β->List Value}{T m TI mi A A' k:Nat}{is:List α}{vs0 vs:List Value}{v:Value}{w u:World}(h:Az E d inn f T m TI mi A is vs0 v k vs w)(hk:Fq A w u)(hA:A'<=A)(h1:T≠47/\T≠139)(h2:TI≠47/\TI≠139):Az E d inn f T m TI mi A' is vs0 v k vs u:=⟨h.len,Gu h.row hk hA h1,λi b=>by obtain⟨a,c,e,o⟩:=h.gl i b;exact⟨a,c,e,Gu o hk hA h2⟩,h.old,h.apart⟩
theorem W_.mv{w u:World}{A A':Nat}{ts:LB}{rs:List R3}{tv rv:Value}(h:W_ w A ts rs tv rv)(hk:Fq A w u)(hA:A'<=A):W_ u A' ts rs tv rv:=Ij ⟨Z4 h.1 (λq a=>hk.2 q 9 (X6 h.1 a) U5 (X4 h.1 a)),h.2.imp λvs k=>k.keep (λq t hT ht a=>hk.2 q t hT (by rcases ht with rfl|rfl<;>decide) a)⟩ hA
theorem xH{w:World}{A c:Nat}{a:OA}{fs:List T.F2}(h:w.ownsRow A 169 2 (Sa a fs.length c) fs.length (T.J3 fs)):T.Wn A w a fs:=by
 have f:=h;obtain⟨fa,fc,e,hf⟩:=Ur h;cases e;refine⟨hf,?_⟩;rcases h.2 with⟨hv,_⟩|⟨g,cap,cur,hv,d,b,_,_,_,_⟩
 ·injection hv with _ h0 _;exact .inl (Xb.1 h0)
 cases hv
 obtain⟨ys,c,hl⟩:=fJ f;exact .inr ⟨g,rfl,d,⟨c.lt,λj hj=>⟨ys[j],by rw[c.cell,V8 (by omega)]⟩,λj=>c.opn j⟩,⟨_,b⟩⟩
theorem VK{w u:World}{A A':Nat}{a:OA}{fs:List T.F2}(h:T.Wn A w a fs)(hk:Fq A w u)(hA:A'<=A):T.Wn A' u a fs:=by
 obtain⟨hf,h2⟩:=h;rcases h2 with h0|⟨g,rfl,f,⟨hl,hc,ho⟩,cur,ht⟩
 ·exact⟨.inl h0,.inl h0⟩
 have e:=hk.2 g 169 ⟨cur,_,ht⟩ U5 f;have hs:=hk.1;refine⟨hf.imp id λ⟨b,off,h1,_,k⟩=>?_,.inr ⟨g,rfl,by omega,⟨by omega,λj c=>by rw[yg e];exact hc j c,λj=>by rw[aF e];exact ho j⟩,cur,e.trans ht⟩⟩;cases h1;exact⟨g,_,rfl,by omega,λi d=>by rw[yg e,yg e];exact k i d⟩
theorem WC.mv{A A':Nat}{w u:World}{b:Bs}{q:Ba}(h:WC A w b q)(hk:Fq A w u)(hA:A'<=A):WC A' u b q:=
 { sf:=Gu h.sf hk hA,lo:=Gu h.lo hk hA,fs:=VK h.fs hk hA,st:=h.st.mv hk hA,hd:=Gu h.hd hk hA,rt:=Gu h.rt hk hA,rn:=h.rn.imp λ_ r=>r.mv hk hA U5 U5,jb:=Gu h.jb hk hA,n1:=h.n1,n2:=h.n2,n3:=h.n3,n4:=h.n4,n5:=h.n5,n6:=h.n6 }
theorem a4Y(b:Bs)(q:Ba)(w:World)(hl:lg b 1048576)(hat:jh w b q):
 Calls prog 129 #[.agg (bsV b q).toArray] w λe w'=>(∃q',e=.returned (.agg (bsV b q').toArray)/\WC w.heap.size w' b q')/\Bw w w':=by
 have X:=U0 hat;have L:=U0 hl
 go_in
 go_upto_region 1 with fail
 have H:Hid (BX w (bsV b q) ((w.alloc (Sg (bsV b q).toArray 47)).alloc (Sg bz.toArray 47))):=⟨E8 (I4 w (bsV b q) 47) _,Oh (xs:=bz) J4,U6.alloc J4 _,J4⟩;generalize (w.alloc (Sg (bsV b q).toArray 47)).alloc (Sg bz.toArray 47)=V at*;have Z:Hid (∀u,Bw V u->u.cell? (aW w 5)=some (vL q.sa b.sf.length q.sc)/\u.cell? (aW w 6)=some (vL q.la b.lo.length q.lc)):=λu r=>have h:=(H.o.call r).h0;⟨h.cell 5,h.cell 6⟩
 have hd:Bw V V.drew:=(O4 _ _).drew;refine Cf 10 (S:=λu=>u.cell? (aW w 5)=some (vL q.sa b.sf.length q.sc)/\u.cell? (aW w 6)=some (vL q.la b.lo.length q.lc)) Y0 (Z _ hd) λhH=>?_
 iterate 3 refine TV ?_
 refine lq 4 hH ?_;refine lq 5 hH ?_;refine lq 6 hH ?_
 try simp only[qq]
 refine SC 3 λK N=>?_;go_simp;refine(JM _ b.sf.length (b.sf.map Sb) V.drew L.o.sl (Oe _) (λu r=>Ez (c:=q.sc) X.o.sf (E5 (E5 H.o.bw hd) r))).mono ?_;rintro e w1⟨⟨v1,rfl,o1⟩,l⟩;have b1:=hd.trans (l.mono A8);obtain⟨a1,A,rfl⟩:=H9 o1;have O1:=U0 o1;go_simp;refine G9 N (Z _ b1) λhH=>?_;refine SC 7 λK N=>?_;go_simp;refine(JM _ b.lo.length (b.lo.map Sb) w1 L.o.ll (Oe _) (λu r=>Ez (c:=q.lc) X.o.lo (E5 (E5 H.o.bw b1) r))).mono ?_;rintro e w2⟨⟨v2,rfl,o2⟩,l⟩;have b2:=E5 b1 l;obtain⟨a2,c2,rfl⟩:=H9 o2;have O2:=U0 o2;have N12:=U0 (ne_of O1 O2);have hV:=H.o.hz;have hV1:=b1.size;have f:=U0 (Nk ((Ak (I7 O1 hV)).below l) (Ak (I7 O2 (by omega))));go_simp;refine G9 N (Z _ b2) λhH=>?_
 iterate 2 refine TV ?_
 refine lzq λK N=>?_;have H2:=U0 (H.o.call b2);refine qc rfl 37 _ _ rfl (j:=5) rfl rfl H2.o.h0 J4 (X5 rfl) Y0 ?_;intro z y o
 replace H:=U0 (H2.o.st y o)
 replace f:=U0 (f.o.on o O0)
 refine N _ _ ?_
 try simp only[qq]
 refine Ah Y0 ?_ _;change Hid (BX w (bsV b {q with sa:=a1,sc:=A,la:=a2,lc:=c2}) z)at H
 go_wp2_with(refine D9 H.o.h0 rfl 40 _ rfl (j:=7) [vL q.fa b.fs.length q.fc] rfl rfl underlying40 rfl Y0 ?_)
 refine(a6z q.fa b.fs q.fc z L.o.fl (T.J5 X.o.fs H.o.bw)).mono ?_;rintro e w3⟨⟨v3,rfl,o3⟩,l⟩;obtain⟨J,c3,rfl⟩:=H9 o3;have hz3:=H.o.hz
 replace H:=U0 (H.o.call l)
 replace f:=U0 (Nk (f.o.below l) (Ak (I7 o3 hz3)))
 go_upto_region 3 with(refine N7 rfl 40 _ _ rfl (j:=7) rfl rfl H.o.h0 J4 (X5 rfl) Y0 ?_;intro z3 y o)
 replace H:Hid (BX w (bsV b {q with sa:=a1,sc:=A,la:=a2,lc:=c2,fa:=J,fc:=c3}) z3):=H.o.st y o
 replace f:=U0 (f.o.on o O0)
 go_wp2_with(refine D9 H.o.h0 rfl 43 _ rfl (j:=8) [vI b.s.wd,vL q.ta b.s.ts.length q.tc,vL q.ra b.s.rs.length q.rc] rfl rfl underlying43 rfl Y0 ?_)
 refine(a4T b.s q.ta q.ra q.tc q.rc z3 L.o.st.1.1 L.o.st.2.1 (λi=>(L.o.st.2.2 i).2.1) (X.o.st.below H.o.bw)).mono ?_;rintro e w4⟨⟨tv,rv,rfl,so⟩,l⟩;obtain⟨I,c4,rfl⟩:=H9 so.1;obtain⟨_,vs4,hr4⟩:=so;obtain⟨F,D,rfl⟩:=H9 hr4.row;have hz4:=H.o.hz;have so:W_ w4 z3.heap.size b.s.ts b.s.rs (vL I b.s.ts.length c4) (vL F b.s.rs.length D):=⟨by assumption,vs4,hr4⟩;have N1:=U0 (ne_of (f.o.now.1.1) so.1);have N2:=U0 (ne_of (f.o.now.1.2) so.1)
 replace H:=U0 (H.o.call l)
 replace f:=U0 (Nk (f.o.below l) (Ij so hz4).kt)
 go_upto_region 4 with(refine N7 rfl 43 _ _ rfl (j:=8) rfl rfl H.o.h0 J4 (X5 rfl) Y0 ?_;intro z4 y o)
 replace H:Hid (BX w (bsV b {q with sa:=a1,sc:=A,la:=a2,lc:=c2,fa:=J,fc:=c3,ta:=I,tc:=c4,ra:=F,rc:=D}) z4):=H.o.st y o
 replace f:=U0 (f.o.on o O0)
 go_wp2_with(refine J7 H.o.h0 rfl _ _ rfl rfl rfl Y0 ?_)
 refine(a4a _ b.hd.length (b.hd.map (Sc Se)) z4 L.o.hl (λv hv=>by obtain⟨x,_,rfl⟩:=Rh.1 hv;rfl) (λu r=>yI q.hc X.o.hd u (E5 H.o.bw r))).mono ?_;rintro e w5⟨⟨v5,rfl,o5⟩,l⟩;obtain⟨Q,O,rfl⟩:=H9 o5;have hz5:=H.o.hz
 replace H:=U0 (H.o.call l)
 replace f:=U0 (Nk (f.o.below l) (Ak (I7 o5 hz5)))
 go_upto_region 5 with(refine Qc rfl 31 _ _ rfl (p:=11) rfl rfl Y0 H.o.h0 J4 ?_;intro z5 y o)
 replace H:Hid (BX w (bsV b {q with sa:=a1,sc:=A,la:=a2,lc:=c2,fa:=J,fc:=c3,ta:=I,tc:=c4,ra:=F,rc:=D,ha:=Q,hc:=O}) z5):=H.o.st y o
 replace f:=U0 (f.o.on o O0)
 go_wp2_with(refine J7 H.o.h0 rfl _ _ rfl rfl rfl Y0 ?_)
 refine(JM _ b.rt.length (b.rt.map Sb) z5 L.o.rl (Oe _) (λu r=>Ez (c:=q.oc) X.o.rt (E5 H.o.bw r))).mono ?_;rintro e w6⟨⟨v6,rfl,o6⟩,l⟩;obtain⟨U,R,rfl⟩:=H9 o6;have hz6:=H.o.hz;have N3:=U0 (ne_of (f.o.now.1.1.1.1) o6);have N4:=U0 (ne_of (f.o.now.1.1.1.2) o6);have N5:=U0 (ne_of (f.o.now.1.2.1) o6)
 replace H:=U0 (H.o.call l)
 replace f:=U0 (Nk (f.o.below l) (Ak (I7 o6 hz6)))
 go_upto_region 6 with(refine Qc rfl 22 _ _ rfl (p:=12) rfl rfl Y0 H.o.h0 J4 ?_;intro z6 y o)
 replace H:Hid (BX w (bsV b {q with sa:=a1,sc:=A,la:=a2,lc:=c2,fa:=J,fc:=c3,ta:=I,tc:=c4,ra:=F,rc:=D,ha:=Q,hc:=O,oa:=U,oc:=R}) z6):=H.o.st y o
 replace f:=U0 (f.o.on o O0)
 obtain⟨vs0,hv0,hsr,hgv⟩:=zQ (E:=Td) (m:=6) (j:=3) (inn:=Rn.ls) (LS:=O9) q.nc (λ_=>rfl) U5 (λ_=>rfl) X.o.rn;have HG:=U0 hgv
 go_wp2_with(refine J7 H.o.h0 rfl _ _ rfl rfl rfl Y0 ?_)
 refine(a3z _ b.rn.length (cE Td L9 b.rn vs0) z6 L.o.nl (TQ (λx a n c u r=>by simp[Td]at r;rcases r with rfl|rfl|rfl|rfl|rfl|rfl<;>rfl) (λi hi=>by obtain⟨ai,ci,e,_⟩:=HG.o i hi;exact⟨_,_,_,e⟩)) (λu r=>hsr u (E5 H.o.bw r))).mono ?_;rintro e w7⟨⟨v7,rfl,o7⟩,l⟩;obtain⟨W,C,rfl⟩:=H9 o7;have hz7:=H.o.hz;have RO:=U0 (I7 o7 hz7)
 replace H:=U0 (H.o.call l)
 replace f:=U0 (f.o.below l)
 go_upto_region 7 with(refine Qc rfl 44 _ _ rfl (p:=13) rfl rfl Y0 H.o.h0 J4 ?_;intro z7 y o)
 replace H:Hid (BX w (bsV b {q with sa:=a1,sc:=A,la:=a2,lc:=c2,fa:=J,fc:=c3,ta:=I,tc:=c4,ra:=F,rc:=D,ha:=Q,hc:=O,oa:=U,oc:=R,na:=W,nc:=C}) z7):=H.o.st y o
 replace f:=U0 (f.o.on o O0)
 replace RO:=U0 (Z4 RO (λq hq=>o.block q (by have:=X4 RO.o hq;omega)))
 obtain⟨P,KP,HP⟩:∃P:World->Prop,Hid (Kt (w.heap.size+2) z7 P)/\Hid (P=_):=⟨_,f,rfl⟩;have HLS:=U0 L.o.ns;have hnl:=L.o.nl
 go_wp2_with(refine J7 H.o.h0 rfl _ _ rfl rfl rfl Y0 ?_)
 have VS:=U0 hv0;go_loopw[37] (λi wr=>∃(k:Nat)(vs:List Value),k<=b.rn.length/\i=Sc Se k/\Hid (BX w (bsV b {q with sa:=a1,sc:=A,la:=a2,lc:=c2,fa:=J,fc:=c3,ta:=I,tc:=c4,ra:=F,rc:=D,ha:=Q,hc:=O,oa:=U,oc:=R,na:=W,nc:=C}) wr)/\Hid (Kt (w.heap.size+2) wr P)/\Hid (Az Td L9 Rn.ls xw 119 6 213 4 (w.heap.size+2) b.rn vs0 (Sa W b.rn.length C) k vs wr)) (λi _=>b.rn.length-(RowKit.intOf i).toNat);exact⟨0,vs0,Y4 _,rfl,H,KP,⟨VS.o,RO.o,λi hi=>absurd hi (U8 _),λ_ _=>rfl,λi j hi=>absurd hi (U8 _)⟩⟩;obtain⟨k,vs,hk,rfl,H,KP,RS⟩:=hrel;by_cases hlt:k<b.rn.length;rotate_left
 ·obtain rfl:k=b.rn.length:=O0
  go_wp2_with(refine J7 H.o.h0 rfl _ _ rfl rfl rfl Y0 ?_)
  refine(a2P _ b.jb.length (b.jb.flatMap Kq) wr L.o.jl (Vu (λx v hv=>by simp[Kq]at hv;rcases hv with rfl|rfl|rfl<;>rfl)) (λu r=>QI q.jc X.o.jb u (E5 H.o.bw r))).mono ?_;rintro e w8⟨⟨v8,rfl,o8⟩,l⟩;obtain⟨a9,a6R,rfl⟩:=H9 o8;have O8:=U0 (I7 o8 H.o.hz)
  replace H:=U0 (H.o.call l)
  replace KP:=U0 (KP.o.below l)
  replace RS:=U0 (RS.o.keep (λq t hT _ _=>l.block q (Ld hT)))
  go_upto_region 13 with(refine Qc rfl 45 _ _ rfl (p:=14) rfl rfl Y0 H.o.h0 J4 ?_;intro z8 y o)
  have HR:Hid (WC (w.heap.size+2) z8 b {q with sa:=a1,sc:=A,la:=a2,lc:=c2,fa:=J,fc:=c3,ta:=I,tc:=c4,ra:=F,rc:=D,ha:=Q,hc:=O,oa:=U,oc:=R,na:=W,nc:=C,ja:=a9,jc:=a6R}):=by
   have k:=KP.o.on o O0;have kn:=k.now;rw[HP.o]at kn;obtain⟨⟨⟨⟨⟨k1,k2⟩,k3⟩,k4⟩,k5⟩,k6⟩:=kn;exact { sf:=k1,lo:=k2,fs:=xH k3,st:=k4,hd:=k5,rt:=k6,rn:=⟨vs,RS.o.len,(RS.o.keep (λq t _ _ hq=>o.block q O0)).row,(RS.o.keep (λq t _ _ hq=>o.block q O0)).gl,λ_ _=>rfl,RS.o.apart⟩,jb:=Z4 O8 (λq hq=>o.block q (by have:=X4 O8.o hq;omega)),n1:=N12.o,n2:=N1.o,n3:=N2.o,n4:=N3.o,n5:=N4.o,n6:=N5.o }
  replace H:Hid (BX w (bsV b {q with sa:=a1,sc:=A,la:=a2,lc:=c2,fa:=J,fc:=c3,ta:=I,tc:=c4,ra:=F,rc:=D,ha:=Q,hc:=O,oa:=U,oc:=R,na:=W,nc:=C,ja:=a9,jc:=a6R}) z8):=H.o.st y o
  go_wp2_with(first|(refine D9 H.o.h0 rfl 47 _ rfl (j:=0) (bsV b {q with sa:=a1,sc:=A,la:=a2,lc:=c2,fa:=J,fc:=c3,ta:=I,tc:=c4,ra:=F,rc:=D,ha:=Q,hc:=O,oa:=U,oc:=R,na:=W,nc:=C,ja:=a9,jc:=a6R}) rfl rfl underlying47 rfl Y0 ?_)|(refine N7 rfl 47 _ _ rfl (j:=0) rfl rfl H.o.h1 A8 (X5 rfl) Y0 ?_;intro zz cq oq))
  refine P7 (l7 (P:=prog) (ty:=47) rfl _ zz (w.heap.size+1) (bsV b {q with sa:=a1,sc:=A,la:=a2,lc:=c2,fa:=J,fc:=c3,ta:=I,tc:=c4,ra:=F,rc:=D,ha:=Q,hc:=O,oa:=U,oc:=R,na:=W,nc:=C,ja:=a9,jc:=a6R}) _ rfl cq.blk underlying47 rfl Y0) rfl ⟨⟨{q with sa:=a1,sc:=A,la:=a2,lc:=c2,fa:=J,fc:=c3,ta:=I,tc:=c4,ra:=F,rc:=D,ha:=Q,hc:=O,oa:=U,oc:=R,na:=W,nc:=C,ja:=a9,jc:=a6R},rfl,HR.o.mv (.on oq (.inl O0)) O0⟩,H.o.bw.trans (oq.below O0)⟩
 have q1:=Xj (E:=Td) (d:=L9) (is:=b.rn) (vs:=vs) (m:=6) (j:=3) (λ_=>rfl) hlt U5;obtain⟨g,c3',e3,hg,hc⟩:=Df RS.o.row q1;injection e3 with e3 _ e4;subst e3 e4;obtain⟨ai,ci,hv,hga⟩:=HG.o k hlt;rw[RS.o.old k (Y7 _),hv]at hc;have HGA:=U0 hga;have hgN:=X4 RS.o.row (k:=g) rfl;have OG:=U0 (X6 RS.o.row (k:=g) rfl);have NX:Hid (∀(u:World)(a:OA)(c':Nat),Bw wr u->u.ownsRow wr.heap.size 213 4 (vL a (Rn.ls (b.rn.getD k L9)).length c') (Rn.ls (b.rn.getD k L9)).length ((Rn.ls (b.rn.getD k L9)).flatMap xw)->Az Td L9 Rn.ls xw 119 6 213 4 (w.heap.size+2) b.rn vs0 (vL (some (aA g 0)) b.rn.length C) (k+1) (vs.set k (vL a (Rn.ls (b.rn.getD k L9)).length c')) (u.setCell (aA g (k*6+3)) (vL a (Rn.ls (b.rn.getD k L9)).length c'))):=λu a c' l ho=>RS.o.next (j:=3) (λ_=>rfl) (λ_ _ _=>rfl) U5 U5 hlt l ho;have hxl:=(HLS k).2.2.1.1;obtain⟨ys,CG,hyl⟩:=fJ RS.o.row;have hCG:=U0 CG;generalize b.rn.getD k L9=x at*
 go_upto_region 10 with fail
 have Z:Hid (∀u,Bw wr u->u.cell? (aW w 13)=some (vL (some (aA g 0)) b.rn.length C)/\u.cell? (aA g (k*6+3))=some (vL ai x.ls.length ci)):=λu r=>⟨(H.o.call r).h0.cell 13,(r.cell hg).trans hc⟩;have hd:Bw wr wr.drew:=(O4 _ _).drew;refine Cf 12 (S:=λu=>u.cell? (aW w 13)=some (vL (some (aA g 0)) b.rn.length C)/\u.cell? (aA g (k*6+3))=some (vL ai x.ls.length ci)) Y0 (Z _ hd) λhH=>?_
 iterate 9 refine TV ?_
 try simp only[qq]
 refine SC 9 λK N=>?_;go_simp;refine(a3W _ x.ls.length (x.ls.flatMap xw) _ hxl (Vu (λx v hv=>by simp[xw]at hv;rcases hv with rfl|rfl|rfl|rfl<;>rfl)) (λu r=>dD ci HGA u (E5 (E5 H.o.bw hd) r))).mono ?_;rintro e w5⟨⟨v5_,rfl,ho⟩,l⟩;obtain⟨a5_,a7b,rfl⟩:=H9 ho;have Y:=hd.trans (l.mono A8);go_simp;refine G9 N (Z _ Y) λhH=>?_;refine SC 10 λK N=>?_;go_simp;refine G9 N (Z _ Y) λhH=>?_;refine TV ?_;refine lzq λK N=>?_;have CG5:=U0 (hCG.o.below Y hg);refine uo rfl (Ql 116 _ _ rfl (B:=g) (j:=k*6+3) rfl rfl ⟨_,by rw[CG5.o.cell,V8 (show k*6+3<ys.length by omega)]⟩ (CG5.o.opn _) Y0) ?_;change K _ (w5.setCell (aA g (k*6+3)) (vL a5_ x.ls.length a7b));have N5:=U0 (NX.o _ _ _ Y (by have h:=ho;simpa using h));have hs:=u_ w5 g (k*6+3) (vL a5_ x.ls.length a7b);have H5:=H.o.call Y;have H6:Hid (BX w (bsV b {q with sa:=a1,sc:=A,la:=a2,lc:=c2,fa:=J,fc:=c3,ta:=I,tc:=c4,ra:=F,rc:=D,ha:=Q,hc:=O,oa:=U,oc:=R,na:=some (aA g 0),nc:=C}) (w5.setCell (aA g (k*6+3)) (vL a5_ x.ls.length a7b))):=⟨H5.h0.on hs O0,H5.h1.on hs O0,H5.bw.trans (hs.below O0),X7 H5.hz (Nat.le_of_eq hs.size.symm)⟩;have K6:=U0 ((KP.o.below Y).on1 hs (OG.o.below Y hg));generalize w5.setCell (aA g (k*6+3)) (vL a5_ x.ls.length a7b)=w6 at*;refine N _ _ ?_
 try simp only[qq]
 refine Ah Y0 ?_ _;go_wp2;go_roundw;exact⟨k+1,_,O0,by go_num,H6,K6,N5⟩;exact V9
