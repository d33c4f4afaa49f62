import Derived.Test.YtdgneicbmalnpaaGreatDoortWF
import Derived.Test.YtdgneicbmalnpaaGreatDooreES
set_option linter.all false
set_option maxHeartbeats 0
set_option maxRecDepth 99999
open Go.Value renaming slice->Sa,string->Sb,int->Sc,pointer->Sd
open Go.IntKind renaming i64->Se
open Go.Obj renaming cells->Sg
namespace Go.Proofs.YtdgneicbmalnpaaGreatDoor
open Proofs.Tryz Go.RowKit Go.Maps
variable{s:St}{m:M3}{ls:List L4}{A b0 c c2 g tc:Nat}{t:BY}{W W0:Int}{T ts:LB}{b:Bool}{V f w z:World}{P:List R3}{a2 ta:OA}{vs:List Value}
theorem FP{c:Int}(h:Lh s)(h2:¬Fg m ls c t):V_ s m ls c t=(st0,2):=by
 simp[V_,h,h2]
theorem a1Q(W:Int)(ls:List L4):SG W ls=gC (ls.map (Hz W)):=by
 unfold SG gC;rw[List.flatMap_map];rfl
theorem YE{fs:LB}(h:I8 W fs (ts,true)=(T,b))(h1:∀i,(ts.getD i ByteArray.empty).size<=1048700)(h2:∀x∈fs,x.size<=1048700):∀i,(T.getD i ByteArray.empty).size<=1048700:=λi=>by
 rcases Z7 i T.length with a|a
 ·have hm:=Wx a;have e:T=(I8 W fs (ts,true)).1:=by rw[h]
  rw[e]at hm;rcases jC fs _ hm with hx|hx
  ·rw[e];exact h2 _ hx
  obtain⟨j,c,d⟩:=Qe hx;have:=h1 j;simp only[List.getD,V8 c,Dc]at this;rw[e,<- d];exact this
 have:T.getD i ByteArray.empty=ByteArray.empty:=by simp[List.getD,Eb a]
 rw[this];exact Y4 _
theorem aP(h:∀i,(ls.getD i K_).le 1048576)(k:Nat):∀x∈YM ls k,x.size<=1048700:=by
 have hm:∀l:List L4,(∀y∈l,y.tx.size<=1048576)->∀x∈(F_ l).map (λr=>KC r.1 r.2),x.size<=1048700:=by
  intro l
  induction l with
  | nil=>intro _ x hx;simp[F_]at hx
  | cons y r ih=>
   intro hl x hx;unfold F_ at hx;split at hx
   ·exact ih (λz hz=>hl z (Ug _ hz)) x hx
   rw[Xq]at hx;rcases qf.1 hx with rfl|hx
   ·have:=Lr y.cd y.tx;have:=hl y Gt;simp only[];omega
   exact ih (λz hz=>hl z (Ug _ hz)) x hx
 refine hm _ λy a=>?_;obtain⟨j,b,e⟩:=Qe (IA a);have:=(h j).2;simp only[List.getD,V8 b,Dc]at this;rw[<- e];exact this
structure LD(V:World)(A:Nat)(W0:Int)(ts:LB)(g c:Nat)(P:List R3)(a2:OA)(c2:Nat)(vs:List Value)(W:World):Prop where
 cl:Cl W A 43 [Sc Se W0,Sa (some ⟨g,0,none⟩) ts.length c,Sa a2 P.length c2]
 rc:Bg W V.heap.size (Sa a2 P.length c2) P vs
 tr:W.ownsRow V.heap.size 9 1 (Sa (some ⟨g,0,none⟩) ts.length c) ts.length (ts.map Sb)
 na:V.heap.size<=A
 bw:Bw V W
theorem LD.below{W W':World}(h:LD V A W0 ts g c P a2 c2 vs W)(a:Bw W W'):LD V A W0 ts g c P a2 c2 vs W':=
 ⟨h.cl.below a h.cl.lt,h.rc.keep (λq t hT _ _=>a.block q (Ld hT)),own_below h.tr a,h.na,E5 h.bw a⟩
theorem jR{E:World}{b d:Nat}{a:LB}(h:LD V A W0 T g c P a2 c2 vs E)(ho:E.ownsRow V.heap.size 9 1 (Sa (some ⟨b,0,none⟩) a.length d) a.length (a.map Sb))(hs:Jr A E f)(hc:Cl f A 43 [Sc Se W0,Sa (some ⟨b,0,none⟩) a.length d,Sa a2 P.length c2]):LD V A W0 a b d P a2 c2 vs f:=by
 refine⟨hc,h.rc.keep (λq t hT i _=>hs.block q (λe=>?_)),Z4 ho (λq j=>hs.block q (λe=>?_)),h.na,h.bw.trans (hs.below h.na)⟩
 ·have k:=N8 hT (e▸I_ h.cl);rcases i with rfl|rfl<;>exact absurd k U5
 exact absurd (N8 (X6 ho j) (e▸I_ h.cl)) U5
theorem a0o{a:World}{W:World}{o:Obj}(h:LD V A W0 ts g c P a2 c2 vs W)(b:(W.alloc o).grownBy a (Sa a2 P.length c2).ownBlock):Cl a A 43 [Sc Se W0,Sa (some ⟨g,0,none⟩) ts.length c,Sa a2 P.length c2]:=
 (b.block A (by have:=h.cl.lt;simp;omega) (λe=>absurd (N8 (I_ h.cl) (X6 h.rc.row e.symm)) U5)).trans ((Ip _ _ _ h.cl.lt).trans h.cl)
theorem a0S{V1 r:World}{o p:OA}{m c6:Nat}{y:R3}{n:Nat}(h:LD V A W0 ts g c P a2 c2 vs V1)(B:y.gs.length=n)(j:Bw V1 f)(l:f.ownsRow V1.heap.size 235 3 (Sa o n m) n (gC y.gs))
 (s:r.ownsRow V.heap.size 179 3 (Sa p (P.length+1) c6) (P.length+1) (rC P vs++[Sb y.key,(Sa o n m),Sb y.o])) (i:(f.alloc (Sg #[Sb y.key,Sa o n m,Sb y.o] 179)).grownBy r (Sa a2 P.length c2).ownBlock) (hs:Jr A r z) (hc:Cl z A 43 [Sc Se W0,Sa (some ⟨g,0,none⟩) ts.length c,Sa p (P.length+1) c6]):
 LD V A W0 ts g c (P++[y]) p c6 (vs++[Sa o n m]) z:=by
 subst B;have hA:=h.cl.lt;have C:=h.na;have s12:=j.size;have s4:(f.alloc (Sg #[Sb y.key,Sa o y.gs.length m,Sb y.o] 179)).heap.size=f.heap.size+1:=J4;have s5:=i.size;have s6:=hs.size;have v:∀k,k<f.heap.size->k≠A->(Sa a2 P.length c2).ownBlock≠some k->z.heap[k]?=f.heap[k]?:=λk hk a b=>((hs.block k a).trans (i.block k O0 (λe=>b e.symm))).trans (Ip _ _ k hk);have w:∀k,k<V1.heap.size->k≠A->(Sa a2 P.length c2).ownBlock≠some k->z.heap[k]?=V1.heap[k]?:=λk hk a b=>(v k O0 a b).trans (j.block k hk);have u:∀k t,oh V1 k t->t≠179->t≠43->z.heap[k]?=V1.heap[k]?:=λk t hT a b=>w k (Ld hT) (λe=>b (N8 hT (e▸I_ h.cl))) (λe=>a (N8 hT (X6 h.rc.row e)));have e1:(P++[y]).length=P.length+1:=J4;refine⟨by rw[e1];exact hc,?_,Z4 h.tr (λq d=>u q 9 (X6 h.tr d) U5 U5),C,⟨hs.os.trans (i.os.trans (j.os.trans h.bw.os)),hs.tape.trans (i.tape.trans (j.tape.trans h.bw.tape)),hs.output.trans (i.output.trans (j.output.trans h.bw.output)),by have:=h.bw.size;omega,λk hk=>(w k O0 O0 (λe=>by have:=X4 h.rc.row e;omega)).trans (h.bw.block k hk)⟩⟩;rw[e1];refine SI h.rc (I7 (Z4 l (λq d=>v q (o_ l d) (λe=>by have:=X4 l d;omega) (λe=>by have:=o_ h.rc.row e;have:=X4 l d;omega))) O0) (Z4 s (λq d=>hs.block q (λe=>?_))) (λq d=>u q 235 d U5 U5) (λq d=>X4 l d);have x:=X6 s d;exact absurd (N8 x (e▸I_ (a0o (h.below j) i))) U5
theorem VJ{rs:List R3}{x:R3}(h:b=true↔∃j,j<rs.length/\rs.getD j d_=x):b=true↔x∈rs:=by
 rw[h];constructor
 ·rintro⟨j,a,e⟩;simp only[List.getD,V8 a,Dc]at e;rw[<- e];exact dh a
 intro hm;obtain⟨j,a,e⟩:=Qe hm;refine⟨j,a,?_⟩;simp only[List.getD,V8 a,Dc];exact e
theorem mW{c:Int}(h:Lh s)(h2:Fg m ls c t)(a:I8 s.wd (Xm ls c t) (s.ts,true)=(T,false)):V_ s m ls c t=(st0,3):=by
 simp[V_,h,h2,a]
theorem zW{c:Int}(h:Lh s)(h2:Fg m ls c t)(d:I8 s.wd (Xm ls c t) (s.ts,true)=(T,true))(b:Zg s.rs (Ui s.wd m ls c t)=P)(a:300<T.length\/150<P.length):V_ s m ls c t=(st0,4):=by
 simp only[V_,h,h2,d,b,a,not_true_eq_false,if_false,if_true];simp
theorem nY{c:Int}(h:Lh s)(h2:Fg m ls c t)(e:I8 s.wd (Xm ls c t) (s.ts,true)=(T,true))(d:Zg s.rs (Ui s.wd m ls c t)=P)(b:¬300<T.length)(a:¬150<P.length):V_ s m ls c t=(⟨s.wd,T,P⟩,0):=by
 simp[V_,h,h2,e,d,b,a]
theorem yM(h:Lh s)(i:Nat):(s.rs.getD i d_).gs.length<=1000:=by
 by_cases a:i<s.rs.length
 ·exact X7 (h.2.2.2 i a).1.2.2 U5
 simp[List.getD,Eb (Aq a),d_]
theorem rV(h:w.ownsRow b0 9 1 (Sa ta ts.length tc) ts.length (ts.map Sb)):J8 w ta ts:=by
 rcases h.2 with⟨_,h0⟩|⟨g,cap,cur,hv,_⟩
 ·exact .inl (Xb.1 h0)
 injection hv with hv _ h3;subst hv h3;obtain⟨h1,_,_,b⟩:=wH h;exact .inr ⟨g,0,rfl,h1,λi a=>by rw[Y8];exact b i a⟩
theorem Wv{ra:OA}{rc:Nat}(h:W_ w b0 s.ts s.rs (Sa ta s.ts.length tc) (Sa ra s.rs.length rc)):xh w ta ra s:=by
 obtain⟨h1,vs,h2⟩:=h;exact⟨rV h1,jI h2⟩
theorem cl4(w:World)(a b c d:List Value)(p q r s:TypeId):∃U,U=(((w.alloc (Sg a.toArray p)).alloc (Sg b.toArray q)).alloc (Sg c.toArray r)).alloc (Sg d.toArray s)/\w.heap.size+4=U.heap.size/\Hid (∀u,Bw U u->(Cl u w.heap.size p a/\Cl u (w.heap.size+1) q b/\Cl u (w.heap.size+2) r c/\Cl u (w.heap.size+3) s d)/\Bw w u):=by
 have i:(w.alloc (Sg a.toArray p)).heap.size=w.heap.size+1:=J4;have h:((w.alloc (Sg a.toArray p)).alloc (Sg b.toArray q)).heap.size=w.heap.size+2:=J4;have g:(((w.alloc (Sg a.toArray p)).alloc (Sg b.toArray q)).alloc (Sg c.toArray r)).heap.size=w.heap.size+3:=J4;have h2:=I4 (w.alloc (Sg a.toArray p)) b q;have f:=I4 ((w.alloc (Sg a.toArray p)).alloc (Sg b.toArray q)) c r;have e:=I4 (((w.alloc (Sg a.toArray p)).alloc (Sg b.toArray q)).alloc (Sg c.toArray r)) d s;rw[i]at h2;rw[h]at f;rw[g]at e;exact⟨_,rfl,J4,λu k=>⟨⟨(E8 (E8 (E8 (I4 w a p) _) _) _).below k L8,(E8 (E8 h2 _) _).below k J4,(E8 f _).below k J4,e.below k J4⟩,E5 (((U6.alloc J4 _).alloc L8 _).alloc L8 _) k⟩⟩
theorem dH{y:World}(xs:List Value)(t:TypeId)(h:Bw V y):∃z,y.alloc (Sg xs.toArray t)=z/\Hid (Cl z y.heap.size t xs)/\V.heap.size<=y.heap.size/\Bw y z:=⟨_,rfl,I4 y xs t,h.size,U6⟩
theorem kE{Q:Ending->World->Prop}{c:Array Value}{B:Nat}{x y v:Value}{n:Int}(e:c.getD 8 undef=Sd (some ⟨B,0,none⟩))(d:c.getD 9 undef=Sc Se n)(C:Cl z B 43 [x,y,v])(h:Q (.returned (.tuple #[.agg #[x,y,v],Sc Se n])) z):bodyPost prog f155 Q .ret ⟨c,[]⟩ z:=by
 obtain⟨e0,e1,f⟩:=a1U C;have a:c[8]?.getD undef=Sd (some ⟨B,0,none⟩):=by simpa using e
 have b:c[9]?.getD undef=Sc Se n:=by simpa using d
 exact P7 (by simp[results,results155,go_sem,a,b,e0,e1,f]) rfl h
theorem ky{b:Nat}{U u:World}(H:LD U A W T g c P a2 c2 vs u)(hs:Jr (b+3) u z)(hb:b+4=U.heap.size):W_ z b T P (Sa (some ⟨g,0,none⟩) T.length c) (Sa a2 P.length c2):=by
 have h:=H.rc.keep (W':=z) (λq t _ _ a=>hs.block q O0);exact⟨I7 (Z4 H.tr (λq a=>hs.block q (by have:=X4 H.tr a;omega))) O0,_,h.len,I7 h.row O0,λi d=>by
  obtain⟨j,c3,e,f⟩:=h.gl i d;exact⟨j,c3,e,I7 f O0⟩,h.apart⟩
theorem a5Y(s:St)(m:M3)(ls:List L4)(c:Int)(t:BY)(b0:Nat)(ta ra la:OA)(tc rc lc:Nat)(w:World)(hs:s.le 1048576)(hm:m.le 1048576)(hl:ls.length<=1048576)(hls:∀i,(ls.getD i K_).le 1048576)(ht:t.size<=1048576)(hst:W_ w b0 s.ts s.rs (Sa ta s.ts.length tc) (Sa ra s.rs.length rc))(hla:O9 w la ls):
 Calls prog 155 #[.agg #[Sc Se s.wd,Sa ta s.ts.length tc,Sa ra s.rs.length rc],.agg #[Sb m.nm,Sb m.tl,Sb m.ar],Sa la ls.length lc,.agg #[Sc Se c,Sb t]] w λe w'=>Rx s m ls c t w.heap.size w' e/\Bw w w':=by
 obtain⟨Y,hU,s0,p⟩:=cl4 w [Sc Se s.wd,Sa ta s.ts.length tc,Sa ra s.rs.length rc] [Sb m.nm,Sb m.tl,Sb m.ar] [Sc Se c,Sb t] [Sc Se 0,Sa none 0 0,Sa none 0 0] 43 142 117 43;have r:=U0 (O4 Y.heap.size Y);have HST:=U0 hst;have HL:=U0 hla;have S0:=U0 s0;clear hst hla s0
 go_in
 go_upto_region 1 with fail
 rw[<- hU];clear hU
 go_wp2_with(refine D9 (p.o _ r.o).1.1 rfl 43 _ rfl (j:=0) [Sc Se s.wd,Sa ta s.ts.length tc,Sa ra s.rs.length rc] rfl rfl underlying43 rfl Y0 ?_)
 refine(c208 ta ra tc rc s _ hs ((Wv HST.o).below (p.o _ r.o).2)).mono ?_;rintro e w1⟨⟨b,rfl,l⟩,k1⟩
 replace r:=U0 (E5 r.o k1)
 cases b
 ·have HK:=U0 (ES (m:=m) (ls:=ls) (c:=c) (t:=t) (λh=>absurd (l.2 h) U5))
  go_wp2_with(refine N7 rfl 43 _ _ rfl (j:=0) rfl rfl (p.o _ r.o).1.2.2.2 A8 (X5 rfl) Y0 ?_;intro z Q F)
  exact kE rfl rfl Q ⟨bn HK.o,(p.o _ r.o).2.trans (F.below O0)⟩
 have HOK:=U0 (l.1 rfl);clear l k1
 go_wp2_with(first|(refine D9 (p.o _ r.o).1.2.1 rfl 142 _ rfl (j:=0) [Sb m.nm,Sb m.tl,Sb m.ar] rfl rfl underlying142 rfl Y0 ?_)|(refine D9 (p.o _ r.o).1.2.2.1 rfl 117 _ rfl (j:=0) [Sc Se c,Sb t] rfl rfl underlying117 rfl Y0 ?_))
 refine(a2w m ls c t la lc _ hm hl hls ht (Q7 HL.o (p.o _ r.o).2)).mono ?_;rintro e w2⟨⟨b,rfl,l⟩,k2⟩
 replace r:=U0 (E5 r.o k2)
 cases b
 ·have HK:=U0 (FP (s:=s) HOK.o (show ¬Fg m ls c t from λh=>absurd (l.2 h) U5))
  go_wp2_with(refine N7 rfl 43 _ _ rfl (j:=0) rfl rfl (p.o _ r.o).1.2.2.2 A8 (X5 rfl) Y0 ?_;intro z Q F)
  exact kE rfl rfl Q ⟨bn HK.o,(p.o _ r.o).2.trans (F.below O0)⟩
 have HRK:=U0 (l.1 rfl);clear l k2
 go_wp2_with(first|(refine D9 (p.o _ r.o).1.1 rfl 43 _ rfl (j:=0) [Sc Se s.wd,Sa ta s.ts.length tc,Sa ra s.rs.length rc] rfl rfl underlying43 rfl Y0 ?_)|(refine(c69 s b0 (Sa ta s.ts.length tc) (Sa ra s.rs.length rc) _ (X7 HOK.o.2.1.1 U5) (X7 HOK.o.2.2.1 U5) (yM HOK.o) (Oy HST.o (p.o _ r.o).2)).mono ?_;rintro e w3⟨⟨g3,c3,W,U,rfl,a7L,vs,a7h⟩,k3⟩))
 have s2:=r.o.size
 replace r:=E5 r.o k3
 have s3:=r.size;obtain⟨y,hy,CY,_,kA⟩:=dH [Sc Se s.wd,Sa (some ⟨g3,0,none⟩) s.ts.length c3,Sa W s.rs.length U] 43 r;have n:Hid (LD Y w3.heap.size s.wd s.ts g3 c3 s.rs W U vs y):=U0 ⟨CY.o,⟨a7h.len,I7 (own_below a7h.row kA) s2,λi hi=>by
  obtain⟨a,c,e,h⟩:=a7h.gl i hi;exact⟨a,c,e,I7 (own_below h kA) s2⟩,a7h.apart⟩,I7 (own_below a7L kA) s2,s3,E5 r kA⟩
 rw[hy];clear a7L a7h hy CY kA r k3;generalize w3.heap.size=A at*;go_loopw[11,12] (λf i wr=>∃(k:Nat)(T:List ByteArray)(b:Bool)(gg cc:Nat),k<=ls.length/\i=Sc Se k/\f=.bool b/\Hid (I8 s.wd (YM ls k) (s.ts,true)=(T,b))/\Hid (LD Y A s.wd T gg cc s.rs W U vs wr)) (λ_ i _=>ls.length-(Go.RowKit.intOf i).toNat);exact⟨0,s.ts,true,g3,c3,Y4 _,rfl,rfl,by show _=_;simp[YM,F_,I8],n⟩;clear n;obtain⟨k,T,b,gg,cc,hk,rfl,rfl,HPA,n⟩:=hrel;have HP:Hid (∀N:BY,N.size<=1048700->∀v,Bw wr v->Calls prog 209 #[.agg #[Sc Se s.wd,Sa (some ⟨gg,0,none⟩) T.length cc,Sa W s.rs.length U],Sb N] v λe w'=>(∃L O,e=.returned (.tuple #[.agg #[Sc Se s.wd,.slice (some ⟨L,0,none⟩) (Zb s.wd N T).1.length O,Sa W s.rs.length U],.bool (Zb s.wd N T).2])/\w'.ownsRow Y.heap.size 9 1 (.slice (some ⟨L,0,none⟩) (Zb s.wd N T).1.length O) (Zb s.wd N T).1.length ((Zb s.wd N T).1.map Sb))/\Bw v w'):=λN hf v hv=>a4B s.wd T N Y.heap.size gg cc s.rs.length U W v (by have h:=bC (a:=YM ls k) (b:=true) (Vr HOK.o);rw[HPA.o]at h;exact h) (by
  have h:=zH s.wd (YM ls k) (s.ts,true);rw[HPA.o]at h;have:=rZ ls k;have:=HOK.o.2.1.1;have:=HRK.o.2.1.1;simp only[]at h;omega) (YE HPA.o (λi=>X7 (hs.1.2 i) O0) (aP hls k)) hf (own_below n.o.tr hv) (X7 n.o.bw.size hv.size)
 by_cases hlt:k<ls.length
 ·rcases Q7 HL.o (p.o _ n.o.bw).2 with he|⟨lb,lq,a8t,hlb,hcell⟩
  ·rw[he]at hlt;exact absurd hlt (U8 _)
  subst a8t;obtain⟨l0,l1,l2,l3⟩:=hcell k hlt;have htx:=(hls k).2;have HFN:=(DV hlt);generalize ls.getD k K_=x at*;clear hcell;cases hh:x.has;rotate_left
  ·rw[hh]at l0 HFN
   replace HFN:Hid (I8 s.wd (YM ls (k+1)) (s.ts,true)=(T,b)):=by show _=_;rw[HFN,D8 rfl,Vt];exact HPA.o
   clear hh;go_wp2;go_roundw;exact⟨k+1,T,b,gg,cc,O0,by go_num,rfl,HFN,n⟩;exact V9
  rw[hh]at l0 HFN;have h25:=HP.o _ (show(KC x.cd x.tx).size<=1048700 by have:=Lr x.cd x.tx;omega);generalize hfm:KC x.cd x.tx=N at*;obtain⟨I,b',hp⟩:∃I b',Zb s.wd N T=(I,b'):=⟨_,_,rfl⟩;simp only[hp]at h25
  replace HFN:Hid (I8 s.wd (YM ls (k+1)) (s.ts,true)=(I,b&&b')):=by show _=_;rw[HFN,U7 U5,Zy,HPA.o];simp only[];rw[hp]
  clear hh hp HP HPA
  go_upto_region 11 with fail
  go_cut[13,14] from 44 to 54 (λvp vb V=>∃B L O:Nat,vp=Sd (some ⟨B,0,none⟩)/\vb=.bool b'/\Hid (Cl V B 43 [Sc Se s.wd,Sa (some ⟨L,0,none⟩) I.length O,Sa W s.rs.length U])/\Hid (V.ownsRow Y.heap.size 9 1 (Sa (some ⟨L,0,none⟩) I.length O) I.length (I.map Sb))/\Hid (Bw wr V))
  case first=>
   have J:Hid (∀u,Bw wr u->u.cell? ⟨A,0,none⟩=some (Sc Se s.wd)/\u.cell? ⟨A,1,none⟩=some (Sa (some ⟨gg,0,none⟩) T.length cc)/\u.cell? ⟨A,2,none⟩=some (Sa W s.rs.length U)/\u.cell? ⟨lb,lq+k*4+2,none⟩=some (Sc Se x.cd)/\u.cell? ⟨lb,lq+k*4+3,none⟩=some (Sb x.tx)):=λu k=>have C:=n.o.cl.below k n.o.cl.lt;⟨C.cell 0,C.cell 1,C.cell 2,(k.cell (by exact hlb)).trans l2,(k.cell (by exact hlb)).trans l3⟩
   have d:=(O4 wr.heap.size wr).drew;refine mG J d Y0 λhH=>?_;generalize wr.drew=y at*
   iterate 6 refine sq ?_
   refine wpAnyH_ready (rs:=[6,11]) Y0 J4 ?_;refine AllReadyH.cons (o:=⟨some 51,.call ⟨.value (.func 210),#[.tmp 50],#[117]⟩,9,_,_,none⟩) rfl (λK g=>?_) (AllReadyH.cons (o:=⟨some 13,.alloc 43,0,_,_,none⟩) rfl (λK g=>?_) AllReadyH.nil);rotate_left
   focus
    go_simp;obtain⟨z,e,H,hB,hz⟩:=dH [Sc Se 0,Sa none 0 0,Sa none 0 0] 43 d;rw[e];clear e
    try replace R:=U0 (own_below R.o hz)
    replace d:=E5 d hz
    refine G9 g (J.o _ d) λhH=>?_;clear g K hz;refine rq 6 λK g=>?_
   all_goals
    go_simp;refine(a0g x.cd x.tx N _ hfm O0).mono ?_;rintro e z⟨rfl,l⟩
    try replace H:=U0 (H.o.below l H.o.lt)
    replace d:=E5 d l
    clear l;go_simp;refine G9 g (J.o _ d) λhH=>?_;clear g K
   refine rq 7 λK g=>?_;rotate_left;refine wpAnyH_ready (rs:=[7,11]) Y0 J4 ?_;refine AllReadyH.cons (o:=⟨some 52,.call ⟨.value (.func 209),#[.tmp 45,.tmp 51],#[43,9]⟩,284,_,_,none⟩) rfl (λK g=>?_) (AllReadyH.cons (o:=⟨some 13,.alloc 43,0,_,_,none⟩) rfl (λK g=>?_) AllReadyH.nil);rotate_left
   focus
    go_simp;obtain⟨z,e,H,hB,hz⟩:=dH [Sc Se 0,Sa none 0 0,Sa none 0 0] 43 d;rw[e];clear e
    try replace R:=U0 (own_below R.o hz)
    replace d:=E5 d hz
    refine G9 g (J.o _ d) λhH=>?_;clear g K hz;refine rq 7 λK g=>?_
   all_goals
    go_simp;refine(h25 _ d).mono ?_;rintro e z⟨⟨L,O,rfl,hr⟩,l⟩;have R:=U0 hr;clear hr
    try replace H:=U0 (H.o.below l H.o.lt)
    replace d:=E5 d l
    clear l;go_simp;refine G9 g (J.o _ d) λhH=>?_;clear g K;refine y_ 8 ?_;refine y_ 9 ?_;refine y_ 10 ?_
   rotate_left 2
   focus
    refine rq 11 λK g=>?_;go_simp;obtain⟨z,e,H,hB,hz⟩:=dH [Sc Se 0,Sa none 0 0,Sa none 0 0] 43 d;rw[e];clear e
    try replace R:=U0 (own_below R.o hz)
    replace d:=E5 d hz
    refine G9 g (J.o _ d) λhH=>?_;clear g K hz
   all_goals
    refine rq 12 λK g=>?_;refine qc rfl 43 _ _ rfl (j:=0) rfl rfl H.o A8 (X5 rfl) Y0 ?_;intro E cz F;have RE:=Z4 R.o (λq X=>F.block q (λe=>absurd (N8 (X6 R.o X) (e▸I_ H.o)) U5))
    replace d:=d.trans (F.below hB)
    refine G9 g (J.o _ d) λhH=>?_;clear g K;refine sq ?_;refine wdn ?_
    go_wp2_with fail
    go_meet
    exact⟨_,L,O,rfl,rfl,cz,RE,d⟩
  obtain⟨B,L,O,rfl,rfl,HX,HY,HZ⟩:=hcut;have HL2:=U0 (n.o.below HZ.o)
  go_upto_region 13 with(first|(refine yc HX.o rfl 43 _ rfl rfl underlying43 rfl Y0 ?_)|(refine N7 rfl 43 _ _ rfl (j:=0) rfl rfl HL2.o.cl A8 (X5 rfl) Y0 ?_;intro z Q F))
  replace n:=U0 (jR HL2.o HY.o F Q)
  cases b
  all_goals
   go_wp2;go_roundw;exact⟨k+1,I,_,L,O,O0,by go_num,rfl,HFN,n⟩;exact V9
 obtain rfl:k=ls.length:=O0;have hfs:(KC c t).size<=1048700:=by have:=Lr c t;omega
 have h25:=HP.o _ hfs;obtain⟨N,hfm⟩:∃N,KC c t=N:=⟨_,rfl⟩;obtain⟨I,b',hp⟩:∃I b',Zb s.wd N T=(I,b'):=⟨_,_,rfl⟩;rw[hfm]at h25;simp only[hp]at h25;have HNX:Hid (I8 s.wd (Xm ls c t) (s.ts,true)=(I,b&&b')):=by show _=_;rw[a2i,hfm,Zy,HPA.o];simp only[];rw[hp]
 clear hp HP HPA
 go_upto_region 14 with fail
 go_cut[15,16] from 60 to 66 (λvp vb V=>∃B L O:Nat,vp=Sd (some ⟨B,0,none⟩)/\vb=.bool b'/\Hid (Cl V B 43 [Sc Se s.wd,Sa (some ⟨L,0,none⟩) I.length O,Sa W s.rs.length U])/\Hid (V.ownsRow Y.heap.size 9 1 (Sa (some ⟨L,0,none⟩) I.length O) I.length (I.map Sb))/\Hid (Bw wr V))
 case first=>
  have J:Hid (∀u,Bw wr u->u.cell? ⟨A,0,none⟩=some (Sc Se s.wd)/\u.cell? ⟨A,1,none⟩=some (Sa (some ⟨gg,0,none⟩) T.length cc)/\u.cell? ⟨A,2,none⟩=some (Sa W s.rs.length U)/\u.cell? ⟨w.heap.size+2,0,none⟩=some (Sc Se c)/\u.cell? ⟨w.heap.size+2,1,none⟩=some (Sb t)):=λu k=>have C:=n.o.cl.below k n.o.cl.lt;⟨C.cell 0,C.cell 1,C.cell 2,have D:=(p.o _ (E5 n.o.bw k)).1.2.2.1;⟨D.cell 0,D.cell 1⟩⟩
  have d:=(O4 wr.heap.size wr).drew;refine mG J d Y0 λhH=>?_;generalize wr.drew=y at*
  iterate 2 refine sq ?_
  refine wpAnyH_ready (rs:=[2,7]) Y0 J4 ?_;refine AllReadyH.cons (o:=⟨some 63,.call ⟨.value (.func 210),#[.tmp 62],#[117]⟩,9,_,_,none⟩) rfl (λK g=>?_) (AllReadyH.cons (o:=⟨some 15,.alloc 43,0,_,_,none⟩) rfl (λK g=>?_) AllReadyH.nil);rotate_left
  focus
   go_simp;obtain⟨z,e,H,hB,hz⟩:=dH [Sc Se 0,Sa none 0 0,Sa none 0 0] 43 d;rw[e];clear e
   try replace R:=U0 (own_below R.o hz)
   replace d:=E5 d hz
   refine G9 g (J.o _ d) λhH=>?_;clear g K hz;refine rq 2 λK g=>?_
  all_goals
   go_simp;refine(a0g c t N _ hfm O0).mono ?_;rintro e z⟨rfl,l⟩
   try replace H:=U0 (H.o.below l H.o.lt)
   replace d:=E5 d l
   clear l;go_simp;refine G9 g (J.o _ d) λhH=>?_;clear g K
  refine rq 3 λK g=>?_;rotate_left;refine wpAnyH_ready (rs:=[3,7]) Y0 J4 ?_;refine AllReadyH.cons (o:=⟨some 64,.call ⟨.value (.func 209),#[.tmp 61,.tmp 63],#[43,9]⟩,284,_,_,none⟩) rfl (λK g=>?_) (AllReadyH.cons (o:=⟨some 15,.alloc 43,0,_,_,none⟩) rfl (λK g=>?_) AllReadyH.nil);rotate_left
  focus
   go_simp;obtain⟨z,e,H,hB,hz⟩:=dH [Sc Se 0,Sa none 0 0,Sa none 0 0] 43 d;rw[e];clear e
   try replace R:=U0 (own_below R.o hz)
   replace d:=E5 d hz
   refine G9 g (J.o _ d) λhH=>?_;clear g K hz;refine rq 3 λK g=>?_
  all_goals
   go_simp;refine(h25 _ d).mono ?_;rintro e z⟨⟨L,O,rfl,hr⟩,l⟩;have R:=U0 hr;clear hr
   try replace H:=U0 (H.o.below l H.o.lt)
   replace d:=E5 d l
   clear l;go_simp;refine G9 g (J.o _ d) λhH=>?_;clear g K;refine y_ 4 ?_;refine y_ 5 ?_;refine y_ 6 ?_
  rotate_left 2
  focus
   refine rq 7 λK g=>?_;go_simp;obtain⟨z,e,H,hB,hz⟩:=dH [Sc Se 0,Sa none 0 0,Sa none 0 0] 43 d;rw[e];clear e
   try replace R:=U0 (own_below R.o hz)
   replace d:=E5 d hz
   refine G9 g (J.o _ d) λhH=>?_;clear g K hz
  all_goals
   refine rq 8 λK g=>?_;refine qc rfl 43 _ _ rfl (j:=0) rfl rfl H.o A8 (X5 rfl) Y0 ?_;intro E cz F;have RE:=Z4 R.o (λq X=>F.block q (λe=>absurd (N8 (X6 R.o X) (e▸I_ H.o)) U5))
   replace d:=d.trans (F.below hB)
   refine G9 g (J.o _ d) λhH=>?_;clear g K;refine sq ?_;refine wdn ?_
   go_wp2_with fail
   go_meet
   exact⟨_,L,O,rfl,rfl,cz,RE,d⟩
 obtain⟨B,L,O,rfl,rfl,HX,HY,HZ⟩:=hcut;have HL2:=U0 (n.o.below HZ.o)
 go_upto_region 16 with(first|(refine yc HX.o rfl 43 _ rfl rfl underlying43 rfl Y0 ?_)|(refine N7 rfl 43 _ _ rfl (j:=0) rfl rfl HL2.o.cl A8 (X5 rfl) Y0 ?_;intro z Q F))
 replace n:=U0 (jR HL2.o HY.o F Q)
 try simp only[qq]
 go_cut[11] from 68 to 71 (λv V=>v=.bool (b&&b')/\V=z)
 case first=>
  cases b
  all_goals
   go_wp2_with fail
   go_meet
   exact⟨rfl,rfl⟩
 obtain⟨rfl,hzz⟩:=hcut;subst hzz;generalize (b&&b')=bb at*;clear Q F HL2 HX HY HZ
 go_wp2_with(first|(refine D9 (p.o _ n.o.bw).1.2.1 rfl 142 _ rfl (j:=0) [Sb m.nm,Sb m.tl,Sb m.ar] rfl rfl underlying142 rfl Y0 ?_)|(refine D9 (p.o _ n.o.bw).1.2.2.1 rfl 117 _ rfl (j:=0) [Sc Se c,Sb t] rfl rfl underlying117 rfl Y0 ?_)|(refine J7 (p.o _ n.o.bw).1.1 rfl 3 _ rfl rfl rfl Y0 ?_)|(refine(a4W m ls c t s.wd la lc _ ⟨X7 hm.1 O0,X7 hm.2.1 O0,X7 hm.2.2 O0⟩ O0 hfs hl (λi=>⟨X7 (hls i).2 O0,jM (hls i).2⟩) (Q7 HL.o (p.o _ n.o.bw).2)).mono ?_;rintro e w5⟨⟨v5,rfl,hv5⟩,hb5⟩;obtain⟨a5,a6P,rfl⟩:=x9 hv5))
 rw[a1Q]at hv5;have HV5:=U0 hv5;clear hv5;obtain⟨x0,hx0⟩:∃x:R3,x=Ui s.wd m ls c t:=⟨_,rfl⟩;generalize hsm:Y6 (U3 (b_ c t.data.toList)) s.wd=sm at*;have hx1:=U0 hx0.symm
 replace hx0:Hid (x0=⟨rf m,ls.map (Hz s.wd),sm⟩):=U0 (by rw[hx0,<- hsm];rfl)
 clear hsm;obtain⟨E6,e6,BR6,_,a7i⟩:=dH [Sb (rf m),Sa a5 ls.length a6P,Sb sm] 179 (O4 w5.heap.size w5);rw[e6];clear e6;have L6:=U0 ((n.o.below hb5).below a7i);have HGL:=U0 (yN (gs:=ls.map (Hz s.wd)) (c:=a6P) (by rw[Ve];exact HV5.o));go_loopw[18,19] (λth i wr=>∃(k:Nat)(b2:Bool),k<=s.rs.length/\th=.bool b2/\i=Sc Se k/\Hid (b2=true↔∃j,j<k/\s.rs.getD j d_=x0)/\Below E6.heap.size E6 wr) (λ_ i _=>s.rs.length-(Go.RowKit.intOf i).toNat);exact⟨0,false,Y4 _,rfl,rfl,by show _↔_;simp,O4 _ _⟩;obtain⟨k,b2,hk,rfl,rfl,X,hbr⟩:=hrel;have HLr:=U0 (L6.o.below hbr);have hsl:=hs.2.1;have o2:wr.cell? ⟨A,2,none⟩=some (Sa W s.rs.length U):=HLr.o.cl.cell 2;by_cases hlt:k<s.rs.length
 ·cases b2
  rotate_left
  ·have HQ:Hid (∃j,j<k+1/\s.rs.getD j d_=x0):=by obtain⟨j,hj,e⟩:=X.o.1 rfl;exact⟨j,O0,e⟩
   clear X
   go_wp2_with fail
   refine wp_region_held_drew (S:=(λ_=>True)) Y0 ?_ λhHeld=>?_
   · ((try dsimp only);all_goals trivial)
   iterate 11 refine sq ?_
   refine wdn ?_;go_wp2;go_roundw;exact⟨k+1,true,O0,rfl,by go_num,⟨λ_=>HQ.o,λ_=>rfl⟩,hbr.drew⟩;exact V9
  rcases jI HLr.o.rc with he|⟨rb,ro,hra,hrb,hcell⟩
  ·rw[he]at hlt;exact absurd hlt (U8 _)
  subst hra;obtain⟨ai,ci,g0,g1,g2,g3⟩:=hcell k hlt;clear hcell;have h28:=a1G (s.rs.getD k d_) ⟨rf m,ls.map (Hz s.wd),sm⟩ ai a5 ci a6P wr.drew (hs.2.2 k).2.1 (by simpa using hl) (y9 g3 (O4 _ _).drew) (y9 HGL.o ((E5 a7i hbr).trans ((O4 wr.heap.size wr).drew.mono (E5 a7i hbr).size)));simp only[Ve]at h28;rw[<- hx0.o]at h28;have HQ:Hid (∀b:Bool,(b=true↔s.rs.getD k d_=x0)->(b=true↔∃j,j<k+1/\s.rs.getD j d_=x0)):=λb l=>by
   rw[l];constructor
   ·intro e;exact⟨k,O0,e⟩
   rintro⟨j,hj,e⟩;rcases Z7 j k with h|h
   ·exact absurd (X.o.2 ⟨j,h,e⟩) U5
   obtain rfl:j=k:=O0;exact e
  generalize s.rs.getD k d_=x at*;clear X;have J:Hid (∀u,Bw wr u->u.cell? ⟨A,2,none⟩=some (Sa (some ⟨rb,ro,none⟩) s.rs.length U)/\u.cell? ⟨rb,ro+k*3,none⟩=some (Sb x.key)/\u.cell? ⟨rb,ro+k*3+1,none⟩=some (Sa ai x.gs.length ci)/\u.cell? ⟨rb,ro+k*3+2,none⟩=some (Sb x.o)/\u.cell? ⟨w5.heap.size,0,none⟩=some (Sb (rf m))/\u.cell? ⟨w5.heap.size,1,none⟩=some (Sa a5 ls.length a6P)/\u.cell? ⟨w5.heap.size,2,none⟩=some (Sb sm)):=λu h=>have B:=BR6.o.below (E5 hbr h) BR6.o.lt;⟨(h.cell (by exact HLr.o.cl.lt)).trans o2,(h.cell (by exact hrb)).trans g0,(h.cell (by exact hrb)).trans g1,(h.cell (by exact hrb)).trans g2,B.cell 0,B.cell 1,B.cell 2⟩
  have k0:=(O4 wr.heap.size wr).drew
  go_wp2_with fail
  refine mG J k0 Y0 λhH=>?_
  iterate 8 refine sq ?_
  refine rq 8 λK g=>?_;go_simp;refine h28.mono ?_;rintro e w7⟨⟨bo,rfl,hbo⟩,hb7⟩
  replace k0:=E5 k0 hb7
  go_wp2_with fail
  refine G9 g (J.o _ k0) λhH=>?_;clear g K
  iterate 2 refine sq ?_
  refine wdn ?_;go_wp2;go_roundw;exact⟨k+1,bo,O0,rfl,by go_num,HQ.o bo hbo,E5 hbr k0⟩;exact V9
 obtain rfl:k=s.rs.length:=O0;have hmem:=U0 (VJ X.o);clear X
 go_upto_if 96 with fail
 go_cut[] from 97 to 102 (λV=>∃(P:List R3)(a6:OA)(c6:Nat)(vs:List Value),Hid (Zg s.rs x0=P)/\Hid (LD Y A s.wd I L O P a6 c6 vs V))
 case first=>
  cases b2
  rotate_left
  ·go_wp2_with fail
   go_meet
   exact⟨_,_,_,_,by show Zg _ _=_;unfold Zg;rw[if_pos (by simpa using hmem.o)],HLr⟩
  go_wp2_with(first|(refine yc (BR6.o.below hbr BR6.o.lt) rfl 179 _ rfl rfl underlying179 rfl Y0 ?_)|(refine Lc rfl _ _ 41 rfl Y.heap.size 179 3 underlying41 (Jc Y0) U5 _ _ _ rfl (own_below HLr.o.rc.row U6) _ 1 [Sb (rf m),Sa a5 ls.length a6P,Sb sm] rfl (.inr ⟨⟨wr.heap.size,0,none⟩,1,rfl,rfl,yh (I4 wr [Sb (rf m),Sa a5 ls.length a6P,Sb sm] 179)⟩) (X5 rfl) (by have:=hs.2.1;omega) (by have:=HLr.o.bw.size;simp;omega) ?_;intro v6 w6 hown hg _;obtain⟨a6,c6,rfl⟩:=x9 hown)|(refine Qc rfl _ _ _ rfl rfl rfl Y0 (a0o HLr.o hg) J4 ?_;intro z6 C6 o6))
  go_meet
  exact⟨_,_,_,_,by show Zg _ _=_;unfold Zg;rw[if_neg (λh=>absurd (hmem.o.2 h) U5),hx0.o],a0S (y:=⟨rf m,ls.map (Hz s.wd),sm⟩) n.o (List.length_map _) (E5 (E5 hb5 a7i) hbr) (own_below HV5.o (E5 a7i hbr)) hown hg o6 C6.o⟩
 obtain⟨P,a6,c6,vs6,HPR,Z⟩:=hcut;clear n HLr L6 HV5 HGL BR6 hmem;cases bb
 ·have HK:=U0 (mW HOK.o HRK.o HNX.o)
  go_wp2_with(refine N7 rfl 43 _ _ rfl (j:=0) rfl rfl (p.o _ Z.o.bw).1.2.2.2 A8 (X5 rfl) Y0 ?_;intro z Q F)
  exact kE rfl rfl Q ⟨bn HK.o,(p.o _ Z.o.bw).2.trans (F.below O0)⟩
 have p1:wc.cell? ⟨A,1,none⟩=some (Sa (some ⟨L,0,none⟩) I.length O):=Z.o.cl.cell 1;have p2:wc.cell? ⟨A,2,none⟩=some (Sa a6 P.length c6):=Z.o.cl.cell 2;by_cases h3:(300:Int)<I.length<;>by_cases h1:(150:Int)<P.length
 all_goals go_wp2_with(first|(refine N7 rfl 43 _ _ rfl (j:=0) rfl rfl (p.o _ Z.o.bw).1.2.2.2 A8 (X5 rfl) Y0 ?_;intro z Q F)|(refine yc Z.o.cl rfl 43 _ rfl rfl underlying43 rfl Y0 ?_)|(refine N7 rfl 43 _ _ rfl (j:=0) rfl rfl (p.o _ Z.o.bw).1.2.2.2 A8 (X5 rfl) Y0 ?_;intro z Q F))
 rotate_left 3;exact kE rfl rfl Q ⟨PO (nY HOK.o HRK.o HNX.o (hx1.o▸HPR.o) O0 O0) (ky Z.o F S0.o),(p.o _ Z.o.bw).2.trans (F.below O0)⟩
 all_goals exact kE rfl rfl Q ⟨bn (zW HOK.o HRK.o HNX.o (hx1.o▸HPR.o) O0),(p.o _ Z.o.bw).2.trans (F.below O0)⟩
