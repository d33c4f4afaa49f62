import Derived.Test.YtkccjgajimjjdaaGreatDoorzA
import Derived.Test.YtkccjgajimjjdaaGreatDoorzF
set_option linter.unusedVariables false
set_option linter.unusedSimpArgs false
set_option maxHeartbeats 8000000
set_option maxRecDepth 100000
namespace Go.Proofs.YtkccjgajimjjdaaGreatDoor
open Proofs.Tryz Go.RowKit Go.Maps
variable{s:St}{m:M3}{ls:List L4}{A b0 c c2 g tc:Nat}{t:BY}{W W0:Int}{T ts:LB}{b:Bool}{V u w z:World}{P:List R3}{a2 ta:OA}{vs:List Value}
theorem qN{c:Int}(h:Bh s)(h2:¬Fg m ls c t):Aa s m ls c t=(st0,2):=by
 simp[Aa,h,h2]
theorem a1j(W:Int)(ls:List L4):pG W ls=gC (ls.map (Dy W)):=by
 unfold pG gC;rw[List.flatMap_map];rfl
theorem QD{fs:LB}(h:P8 W fs (ts,true)=(T,b))(h1:∀i,(ts.getD i ByteArray.empty).size<=1048700)(h2:∀x∈fs,x.size<=1048700):∀i,(T.getD i ByteArray.empty).size<=1048700:=λi=>by
 rcases D8 i T.length with a|a
 ·have hm:=Dv a;have e:T=(P8 W fs (ts,true)).1:=by rw[h]
  rw[e]at hm;rcases Dz fs _ hm with hx|hx
  ·rw[e];exact h2 _ hx
  obtain⟨j,c,d⟩:=Ze hx;have:=h1 j;simp only[List.getD,L9 c,jh]at this;rw[e,<- d];exact this
 have:T.getD i ByteArray.empty=ByteArray.empty:=by simp[List.getD,Zb a]
 rw[this];exact J4 _
theorem YN(h:∀i,(ls.getD i M_).le 1048576)(k:Nat):∀x∈JM ls k,x.size<=1048700:=by
 have hm:∀l:List L4,(∀y∈l,y.tx.size<=1048576)->∀x∈(F_ l).map (λr=>ZB r.1 r.2),x.size<=1048700:=by
  intro l
  induction l with
  | nil=>intro _ x hx;simp[F_]at hx
  | cons y r ih=>
   intro hl x hx;unfold F_ at hx;split at hx
   ·exact ih (λz hz=>hl z (Og _ hz)) x hx
   rw[Fp]at hx;rcases Xe.1 hx with rfl|hx
   ·have:=Qq y.cd y.tx;have:=hl y Vr;simp only[];omega
   exact ih (λz hz=>hl z (Og _ hz)) x hx
 refine hm _ λy a=>?_;obtain⟨j,b,e⟩:=Ze (zA a);have:=(h j).2;simp only[List.getD,L9 b,jh]at this;rw[<- e];exact this
structure LD(V:World)(A:Nat)(W0:Int)(ts:LB)(g c:Nat)(P:List R3)(a2:OA)(c2:Nat)(vs:List Value)(W:World):Prop where
 cl:Cl W A 43 [.int .i64 W0,.slice (some ⟨g,0,none⟩) ts.length c,.slice a2 P.length c2]
 rc:vg W V.heap.size (.slice a2 P.length c2) P vs
 tr:W.ownsRow V.heap.size 9 1 (.slice (some ⟨g,0,none⟩) ts.length c) ts.length (ts.map Value.string)
 na:V.heap.size<=A
 bw:Bw V W
theorem LD.below{W W':World}(h:LD V A W0 ts g c P a2 c2 vs W)(a:Bw W W'):LD V A W0 ts g c P a2 c2 vs W':=
 ⟨h.cl.below a h.cl.lt,h.rc.keep (λq t hT _ _=>a.block q (Je hT)),own_below h.tr a,h.na,J5 h.bw a⟩
theorem GU{E i:World}{d f:Nat}{a:LB}(h:LD V A W0 T g c P a2 c2 vs E)(ho:E.ownsRow V.heap.size 9 1 (.slice (some ⟨d,0,none⟩) a.length f) a.length (a.map Value.string))(b:Jr A E i)(hc:Cl i A 43 [.int .i64 W0,.slice (some ⟨d,0,none⟩) a.length f,.slice a2 P.length c2]):LD V A W0 a d f P a2 c2 vs i:=by
 refine⟨hc,h.rc.keep (λq t hT j _=>b.block q (λe=>?_)),I5 ho (λq k=>b.block q (λe=>?_)),h.na,h.bw.trans (b.below h.na)⟩
 ·have l:=Z8 hT (e▸K_ h.cl);rcases j with rfl|rfl<;>exact absurd l Z5
 exact absurd (Z8 (N7 ho k) (e▸K_ h.cl)) Z5
theorem kZ{a:World}{W:World}{o:Obj}(h:LD V A W0 ts g c P a2 c2 vs W)(b:(W.alloc o).grownBy a (Value.slice a2 P.length c2).ownBlock):Cl a A 43 [.int .i64 W0,.slice (some ⟨g,0,none⟩) ts.length c,.slice a2 P.length c2]:=
 (b.block A (by have:=h.cl.lt;simp;omega) (λe=>absurd (Z8 (K_ h.cl) (N7 h.rc.row e.symm)) Z5)).trans ((Ht _ _ _ h.cl.lt).trans h.cl)
theorem MZ{V1 f s:World}{p r:OA}{c5 c6:Nat}{y:R3}{n:Nat}(h:LD V A W0 ts g c P a2 c2 vs V1)(C:y.gs.length=n)(l:Bw V1 f)(o:f.ownsRow V1.heap.size 213 3 (.slice p n c5) n (gC y.gs))
 (u:s.ownsRow V.heap.size 162 3 (.slice r (P.length+1) c6) (P.length+1) (rC P vs++[.string y.key,(.slice p n c5),.string y.out])) (j:(f.alloc (.cells #[.string y.key,.slice p n c5,.string y.out] 162)).grownBy s (Value.slice a2 P.length c2).ownBlock) (i:Jr A s z) (hc:Cl z A 43 [.int .i64 W0,.slice (some ⟨g,0,none⟩) ts.length c,.slice r (P.length+1) c6]):
 LD V A W0 ts g c (P++[y]) r c6 (vs++[.slice p n c5]) z:=by
 subst C;have hA:=h.cl.lt;have D:=h.na;have s12:=l.size;have s4:(f.alloc (.cells #[.string y.key,.slice p y.gs.length c5,.string y.out] 162)).heap.size=f.heap.size+1:=E5;have s5:=j.size;have s6:=i.size;have w:∀k,k<f.heap.size->k≠A->(Value.slice a2 P.length c2).ownBlock≠some k->z.heap[k]?=f.heap[k]?:=λk m a b=>((i.block k a).trans (j.block k O0 (λe=>b e.symm))).trans (Ht _ _ k m);have x:∀k,k<V1.heap.size->k≠A->(Value.slice a2 P.length c2).ownBlock≠some k->z.heap[k]?=V1.heap[k]?:=λk m a b=>(w k O0 a b).trans (l.block k m);have v:∀k t,Ah V1 k t->t≠162->t≠43->z.heap[k]?=V1.heap[k]?:=λk t hT a b=>x k (Je hT) (λe=>b (Z8 hT (e▸K_ h.cl))) (λe=>a (Z8 hT (N7 h.rc.row e)));have e1:(P++[y]).length=P.length+1:=E5;refine⟨by rw[e1];exact hc,?_,I5 h.tr (λq d=>v q 9 (N7 h.tr d) Z5 Z5),D,⟨i.os.trans (j.os.trans (l.os.trans h.bw.os)),i.tape.trans (j.tape.trans (l.tape.trans h.bw.tape)),i.output.trans (j.output.trans (l.output.trans h.bw.output)),by have:=h.bw.size;omega,λk m=>(x k O0 O0 (λe=>by have:=Z4 h.rc.row e;omega)).trans (h.bw.block k m)⟩⟩;rw[e1];refine ZG h.rc (P7 (I5 o (λq d=>w q (X9 o d) (λe=>by have:=Z4 o d;omega) (λe=>by have:=X9 h.rc.row e;have:=Z4 o d;omega))) O0) (I5 u (λq d=>i.block q (λe=>?_))) (λq d=>v q 213 d Z5 Z5) (λq d=>Z4 o d);have B:=N7 u d;exact absurd (Z8 B (e▸K_ (kZ (h.below l) j))) Z5
theorem JI{rs:List R3}{x:R3}(h:b=true↔∃j,j<rs.length/\rs.getD j h_=x):b=true↔x∈rs:=by
 rw[h];constructor
 ·rintro⟨j,a,e⟩;simp only[List.getD,L9 a,jh]at e;rw[<- e];exact Zj a
 intro hm;obtain⟨j,a,e⟩:=Ze hm;refine⟨j,a,?_⟩;simp only[List.getD,L9 a,jh];exact e
theorem gX{c:Int}(h:Bh s)(h2:Fg m ls c t)(a:P8 s.wd (Pm ls c t) (s.ts,true)=(T,false)):Aa s m ls c t=(st0,3):=by
 simp[Aa,h,h2,a]
theorem JV{c:Int}(h:Bh s)(h2:Fg m ls c t)(d:P8 s.wd (Pm ls c t) (s.ts,true)=(T,true))(b:Vg s.rs (Ri s.wd m ls c t)=P)(a:300<T.length\/150<P.length):Aa s m ls c t=(st0,4):=by
 simp only[Aa,h,h2,d,b,a,not_true_eq_false,if_false,if_true];simp
theorem JW{c:Int}(h:Bh s)(h2:Fg m ls c t)(e:P8 s.wd (Pm ls c t) (s.ts,true)=(T,true))(d:Vg s.rs (Ri s.wd m ls c t)=P)(b:¬300<T.length)(a:¬150<P.length):Aa s m ls c t=(⟨s.wd,T,P⟩,0):=by
 simp[Aa,h,h2,e,d,b,a]
theorem uK(h:Bh s)(i:Nat):(s.rs.getD i h_).gs.length<=1000:=by
 by_cases a:i<s.rs.length
 ·exact I8 (h.2.2.2 i a).1.2.2 Z5
 simp[List.getD,Zb (Js a),h_]
theorem bV(h:w.ownsRow b0 9 1 (.slice ta ts.length tc) ts.length (ts.map Value.string)):Z7 w ta ts:=by
 rcases h.2 with⟨_,h0⟩|⟨g,cap,cur,hv,_⟩
 ·exact .inl (Qb.1 h0)
 injection hv with hv _ h3;subst hv h3;obtain⟨h1,_,_,b⟩:=zH h;exact .inr ⟨g,0,rfl,h1,λi a=>by rw[o9];exact b i a⟩
theorem Ep{ra:OA}{rc:Nat}(h:Z_ w b0 s.ts s.rs (.slice ta s.ts.length tc) (.slice ra s.rs.length rc)):Ef w ta ra s:=by
 obtain⟨h1,vs,h2⟩:=h;exact⟨bV h1,aH h2⟩
theorem cl4(w:World)(a b c d:List Value)(p q r s:TypeId):∃U,U=(((w.alloc (.cells a.toArray p)).alloc (.cells b.toArray q)).alloc (.cells c.toArray r)).alloc (.cells d.toArray s)/\w.heap.size+4=U.heap.size/\Hid (∀u,Bw U u->(Cl u w.heap.size p a/\Cl u (w.heap.size+1) q b/\Cl u (w.heap.size+2) r c/\Cl u (w.heap.size+3) s d)/\Bw w u):=by
 have i:(w.alloc (.cells a.toArray p)).heap.size=w.heap.size+1:=E5;have h:((w.alloc (.cells a.toArray p)).alloc (.cells b.toArray q)).heap.size=w.heap.size+2:=E5;have g:(((w.alloc (.cells a.toArray p)).alloc (.cells b.toArray q)).alloc (.cells c.toArray r)).heap.size=w.heap.size+3:=E5;have h2:=X4 (w.alloc (.cells a.toArray p)) b q;have f:=X4 ((w.alloc (.cells a.toArray p)).alloc (.cells b.toArray q)) c r;have e:=X4 (((w.alloc (.cells a.toArray p)).alloc (.cells b.toArray q)).alloc (.cells c.toArray r)) d s;rw[i]at h2;rw[h]at f;rw[g]at e;exact⟨_,rfl,E5,λu k=>⟨⟨(U8 (U8 (U8 (X4 w a p) _) _) _).below k Q8,(U8 (U8 h2 _) _).below k E5,(U8 f _).below k E5,e.below k E5⟩,J5 (((Y6.alloc E5 _).alloc Q8 _).alloc Q8 _) k⟩⟩
theorem QG{y:World}(xs:List Value)(t:TypeId)(h:Bw V y):∃z,y.alloc (.cells xs.toArray t)=z/\Hid (Cl z y.heap.size t xs)/\V.heap.size<=y.heap.size/\Bw y z:=⟨_,rfl,X4 y xs t,h.size,Y6⟩
theorem kE{Q:Ending->World->Prop}{c:Array Value}{B:Nat}{x y v:Value}{n:Int}(e:c.getD 8 undef=.pointer (some ⟨B,0,none⟩))(d:c.getD 9 undef=.int .i64 n)(C:Cl z B 43 [x,y,v])(h:Q (.returned (.tuple #[.agg #[x,y,v],.int .i64 n])) z):bodyPost prog f131 Q .ret ⟨c,[]⟩ z:=by
 obtain⟨e0,e1,f⟩:=a0T C;have a:c[8]?.getD undef=.pointer (some ⟨B,0,none⟩):=by simpa using e
 have b:c[9]?.getD undef=.int .i64 n:=by simpa using d
 exact Q7 (by simp[results,results131,go_sem,a,b,e0,e1,f]) rfl h
theorem ky{b:Nat}{U:World}(H:LD U A W T g c P a2 c2 vs u)(a:Jr (b+3) u z)(hb:b+4=U.heap.size):Z_ z b T P (.slice (some ⟨g,0,none⟩) T.length c) (.slice a2 P.length c2):=by
 have h:=H.rc.keep (W':=z) (λq t _ _ d=>a.block q O0);exact⟨P7 (I5 H.tr (λq d=>a.block q (by have:=Z4 H.tr d;omega))) O0,_,h.len,P7 h.row O0,λi f=>by
  obtain⟨k,c3,e,j⟩:=h.gl i f;exact⟨k,c3,e,P7 j O0⟩,h.apart⟩
theorem c131(s:St)(m:M3)(ls:List L4)(c:Int)(t:BY)(b0:Nat)(ta ra la:OA)(tc rc lc:Nat)(w:World)(hs:s.le 1048576)(hm:m.le 1048576)(hl:ls.length<=1048576)(hls:∀i,(ls.getD i M_).le 1048576)(ht:t.size<=1048576)(hst:Z_ w b0 s.ts s.rs (.slice ta s.ts.length tc) (.slice ra s.rs.length rc))(hla:S9 w la ls):
 Calls prog 131 #[.agg #[.int .i64 s.wd,.slice ta s.ts.length tc,.slice ra s.rs.length rc],.agg #[.string m.nm,.string m.tl,.string m.ar],.slice la ls.length lc,.agg #[.int .i64 c,.string t]] w λe w'=>Dw s m ls c t w.heap.size w' e/\Bw w w':=by
 obtain⟨Y,hU,s0,p⟩:=cl4 w [.int .i64 s.wd,.slice ta s.ts.length tc,.slice ra s.rs.length rc] [.string m.nm,.string m.tl,.string m.ar] [.int .i64 c,.string t] [.int .i64 0,.slice none 0 0,.slice none 0 0] 43 69 72 43;have r:=U0 (G5 Y.heap.size Y);have HST:=U0 hst;have HL:=U0 hla;have S0:=U0 s0;clear hst hla s0
 go_in
 go_upto_region 1 with fail
 rw[<- hU];clear hU
 go_wp2_with(refine H8 (p.out _ r.out).1.1 rfl 43 _ rfl (j:=0) [.int .i64 s.wd,.slice ta s.ts.length tc,.slice ra s.rs.length rc] rfl rfl underlying43 rfl Y1 ?_)
 refine(a4L ta ra tc rc s _ hs ((Ep HST.out).below (p.out _ r.out).2)).mono ?_;rintro e w1⟨⟨b,rfl,l⟩,k1⟩
 replace r:=U0 (J5 r.out k1)
 cases b
 ·have HK:=U0 (dU (m:=m) (ls:=ls) (c:=c) (t:=t) (λh=>absurd (l.2 h) Z5))
  go_wp2_with(refine I7 rfl 43 _ _ rfl (j:=0) rfl rfl (p.out _ r.out).1.2.2.2 X7 (Y5 rfl) Y1 ?_;intro z Q F)
  exact kE rfl rfl Q ⟨Tn HK.out,(p.out _ r.out).2.trans (F.below O0)⟩
 have HOK:=U0 (l.1 rfl);clear l k1
 go_wp2_with(first|(refine H8 (p.out _ r.out).1.2.1 rfl 69 _ rfl (j:=0) [.string m.nm,.string m.tl,.string m.ar] rfl rfl underlying69 rfl Y1 ?_)|(refine H8 (p.out _ r.out).1.2.2.1 rfl 72 _ rfl (j:=0) [.int .i64 c,.string t] rfl rfl underlying72 rfl Y1 ?_))
 refine(c76 m ls c t la lc _ hm hl hls ht (U7 HL.out (p.out _ r.out).2)).mono ?_;rintro e w2⟨⟨b,rfl,l⟩,k2⟩
 replace r:=U0 (J5 r.out k2)
 cases b
 ·have HK:=U0 (qN (s:=s) HOK.out (show ¬Fg m ls c t from λh=>absurd (l.2 h) Z5))
  go_wp2_with(refine I7 rfl 43 _ _ rfl (j:=0) rfl rfl (p.out _ r.out).1.2.2.2 X7 (Y5 rfl) Y1 ?_;intro z Q F)
  exact kE rfl rfl Q ⟨Tn HK.out,(p.out _ r.out).2.trans (F.below O0)⟩
 have HRK:=U0 (l.1 rfl);clear l k2
 go_wp2_with(first|(refine H8 (p.out _ r.out).1.1 rfl 43 _ rfl (j:=0) [.int .i64 s.wd,.slice ta s.ts.length tc,.slice ra s.rs.length rc] rfl rfl underlying43 rfl Y1 ?_)|(refine(c68 s b0 (.slice ta s.ts.length tc) (.slice ra s.rs.length rc) _ (I8 HOK.out.2.1.1 Z5) (I8 HOK.out.2.2.1 Z5) (uK HOK.out) (Rx HST.out (p.out _ r.out).2)).mono ?_;rintro e w3⟨⟨g3,c3,W,U,rfl,a6Q,vs,a6n⟩,k3⟩))
 have s2:=r.out.size
 replace r:=J5 r.out k3
 have s3:=r.size;obtain⟨y,hy,CY,_,kA⟩:=QG [.int .i64 s.wd,.slice (some ⟨g3,0,none⟩) s.ts.length c3,.slice W s.rs.length U] 43 r;have n:Hid (LD Y w3.heap.size s.wd s.ts g3 c3 s.rs W U vs y):=U0 ⟨CY.out,⟨a6n.len,P7 (own_below a6n.row kA) s2,λi hi=>by
  obtain⟨a,c,e,h⟩:=a6n.gl i hi;exact⟨a,c,e,P7 (own_below h kA) s2⟩,a6n.apart⟩,P7 (own_below a6Q kA) s2,s3,J5 r kA⟩
 rw[hy];clear a6Q a6n hy CY kA r k3;generalize w3.heap.size=A at*;go_loopw[11,12] (λf i wr=>∃(k:Nat)(T:List ByteArray)(b:Bool)(gg cc:Nat),k<=ls.length/\i=.int .i64 k/\f=.bool b/\Hid (P8 s.wd (JM ls k) (s.ts,true)=(T,b))/\Hid (LD Y A s.wd T gg cc s.rs W U vs wr)) (λ_ i _=>ls.length-(Go.RowKit.intOf i).toNat);exact⟨0,s.ts,true,g3,c3,J4 _,rfl,rfl,by show _=_;simp[JM,F_,P8],n⟩;clear n;obtain⟨k,T,b,gg,cc,hk,rfl,rfl,HPA,n⟩:=hrel;have HP:Hid (∀N:BY,N.size<=1048700->∀v,Bw wr v->Calls prog 178 #[.agg #[.int .i64 s.wd,.slice (some ⟨gg,0,none⟩) T.length cc,.slice W s.rs.length U],.string N] v λe w'=>(∃L O,e=.returned (.tuple #[.agg #[.int .i64 s.wd,.slice (some ⟨L,0,none⟩) (qc s.wd N T).1.length O,.slice W s.rs.length U],.bool (qc s.wd N T).2])/\w'.ownsRow Y.heap.size 9 1 (.slice (some ⟨L,0,none⟩) (qc s.wd N T).1.length O) (qc s.wd N T).1.length ((qc s.wd N T).1.map Value.string))/\Bw v w'):=λN hf v hv=>a4Y s.wd T N Y.heap.size gg cc s.rs.length U W v (by have h:=Xz (a:=JM ls k) (b:=true) (Hr HOK.out);rw[HPA.out]at h;exact h) (by
  have h:=SG s.wd (JM ls k) (s.ts,true);rw[HPA.out]at h;have:=mX ls k;have:=HOK.out.2.1.1;have:=HRK.out.2.1.1;simp only[]at h;omega) (QD HPA.out (λi=>I8 (hs.1.2 i) O0) (YN hls k)) hf (own_below n.out.tr hv) (I8 n.out.bw.size hv.size)
 by_cases hlt:k<ls.length
 ·rcases U7 HL.out (p.out _ n.out.bw).2 with he|⟨lb,lq,a7z,hlb,hcell⟩
  ·rw[he]at hlt;exact absurd hlt (y9 _)
  subst a7z;obtain⟨l0,l1,l2,l3⟩:=hcell k hlt;have htx:=(hls k).2;have HFN:=(KT hlt);generalize ls.getD k M_=x at*;clear hcell;cases hh:x.has;rotate_left
  ·rw[hh]at l0 HFN
   replace HFN:Hid (P8 s.wd (JM ls (k+1)) (s.ts,true)=(T,b)):=by show _=_;rw[HFN,L8 rfl,Ot];exact HPA.out
   clear hh;go_wp2;go_roundw;exact⟨k+1,T,b,gg,cc,O0,by go_num,rfl,HFN,n⟩;exact Z9
  rw[hh]at l0 HFN;have h25:=HP.out _ (show(ZB x.cd x.tx).size<=1048700 by have:=Qq x.cd x.tx;omega);generalize hfm:ZB x.cd x.tx=N at*;obtain⟨I,b',hp⟩:∃I b',qc s.wd N T=(I,b'):=⟨_,_,rfl⟩;simp only[hp]at h25
  replace HFN:Hid (P8 s.wd (JM ls (k+1)) (s.ts,true)=(I,b&&b')):=by show _=_;rw[HFN,Y7 Z5,Xx,HPA.out];simp only[];rw[hp]
  clear hh hp HP HPA
  go_upto_region 11 with fail
  go_cut[13,14] from 44 to 54 (λvp vb V=>∃B L O:Nat,vp=.pointer (some ⟨B,0,none⟩)/\vb=.bool b'/\Hid (Cl V B 43 [.int .i64 s.wd,.slice (some ⟨L,0,none⟩) I.length O,.slice W s.rs.length U])/\Hid (V.ownsRow Y.heap.size 9 1 (.slice (some ⟨L,0,none⟩) I.length O) I.length (I.map Value.string))/\Hid (Bw wr V))
  case first=>
   have J:Hid (∀u,Bw wr u->u.cell? ⟨A,0,none⟩=some (.int .i64 s.wd)/\u.cell? ⟨A,1,none⟩=some (.slice (some ⟨gg,0,none⟩) T.length cc)/\u.cell? ⟨A,2,none⟩=some (.slice W s.rs.length U)/\u.cell? ⟨lb,lq+k*4+2,none⟩=some (.int .i64 x.cd)/\u.cell? ⟨lb,lq+k*4+3,none⟩=some (.string x.tx)):=λu k=>have C:=n.out.cl.below k n.out.cl.lt;⟨C.cell 0,C.cell 1,C.cell 2,(k.cell (by exact hlb)).trans l2,(k.cell (by exact hlb)).trans l3⟩
   have d:=(G5 wr.heap.size wr).drew;refine FI J d Y1 λhH=>?_;generalize wr.drew=y at*
   iterate 6 refine sq ?_
   refine wpAnyH_ready (rs:=[6,11]) Y1 E5 ?_;refine AllReadyH.cons (o:=⟨some 51,.call ⟨.value (.func 179),#[.tmp 50],#[72]⟩,9,_,_,none⟩) rfl (λK g=>?_) (AllReadyH.cons (o:=⟨some 13,.alloc 43,0,_,_,none⟩) rfl (λK g=>?_) AllReadyH.nil);rotate_left
   focus
    go_simp;obtain⟨z,e,H,hB,hz⟩:=QG [.int .i64 0,.slice none 0 0,.slice none 0 0] 43 d;rw[e];clear e
    try replace R:=U0 (own_below R.out hz)
    replace d:=J5 d hz
    refine A8 g (J.out _ d) λhH=>?_;clear g K hz;refine rq 6 λK g=>?_
   all_goals
    go_simp;refine(lZ x.cd x.tx N _ hfm O0).mono ?_;rintro e z⟨rfl,l⟩
    try replace H:=U0 (H.out.below l H.out.lt)
    replace d:=J5 d l
    clear l;go_simp;refine A8 g (J.out _ d) λhH=>?_;clear g K
   refine rq 7 λK g=>?_;rotate_left;refine wpAnyH_ready (rs:=[7,11]) Y1 E5 ?_;refine AllReadyH.cons (o:=⟨some 52,.call ⟨.value (.func 178),#[.tmp 45,.tmp 51],#[43,9]⟩,227,_,_,none⟩) rfl (λK g=>?_) (AllReadyH.cons (o:=⟨some 13,.alloc 43,0,_,_,none⟩) rfl (λK g=>?_) AllReadyH.nil);rotate_left
   focus
    go_simp;obtain⟨z,e,H,hB,hz⟩:=QG [.int .i64 0,.slice none 0 0,.slice none 0 0] 43 d;rw[e];clear e
    try replace R:=U0 (own_below R.out hz)
    replace d:=J5 d hz
    refine A8 g (J.out _ d) λhH=>?_;clear g K hz;refine rq 7 λK g=>?_
   all_goals
    go_simp;refine(h25 _ d).mono ?_;rintro e z⟨⟨L,O,rfl,hr⟩,l⟩;have R:=U0 hr;clear hr
    try replace H:=U0 (H.out.below l H.out.lt)
    replace d:=J5 d l
    clear l;go_simp;refine A8 g (J.out _ d) λhH=>?_;clear g K;refine p_ 8 ?_;refine p_ 9 ?_;refine p_ 10 ?_
   rotate_left 2
   focus
    refine rq 11 λK g=>?_;go_simp;obtain⟨z,e,H,hB,hz⟩:=QG [.int .i64 0,.slice none 0 0,.slice none 0 0] 43 d;rw[e];clear e
    try replace R:=U0 (own_below R.out hz)
    replace d:=J5 d hz
    refine A8 g (J.out _ d) λhH=>?_;clear g K hz
   all_goals
    refine rq 12 λK g=>?_;refine t_ rfl 43 _ _ rfl (j:=0) rfl rfl H.out X7 (Y5 rfl) Y1 ?_;intro E cz F;have RE:=I5 R.out (λq X=>F.block q (λe=>absurd (Z8 (N7 R.out X) (e▸K_ H.out)) Z5))
    replace d:=d.trans (F.below hB)
    refine A8 g (J.out _ d) λhH=>?_;clear g K;refine sq ?_;refine wdn ?_
    go_wp2_with fail
    go_meet
    exact⟨_,L,O,rfl,rfl,cz,RE,d⟩
  obtain⟨B,L,O,rfl,rfl,HX,HY,HZ⟩:=hcut;have HL2:=U0 (n.out.below HZ.out)
  go_upto_region 13 with(first|(refine Oe HX.out rfl 43 _ rfl rfl underlying43 rfl Y1 ?_)|(refine I7 rfl 43 _ _ rfl (j:=0) rfl rfl HL2.out.cl X7 (Y5 rfl) Y1 ?_;intro z Q F))
  replace n:=U0 (GU HL2.out HY.out F Q)
  cases b
  all_goals
   go_wp2;go_roundw;exact⟨k+1,I,_,L,O,O0,by go_num,rfl,HFN,n⟩;exact Z9
 obtain rfl:k=ls.length:=O0;have hfs:(ZB c t).size<=1048700:=by have:=Qq c t;omega
 have h25:=HP.out _ hfs;obtain⟨N,hfm⟩:∃N,ZB c t=N:=⟨_,rfl⟩;obtain⟨I,b',hp⟩:∃I b',qc s.wd N T=(I,b'):=⟨_,_,rfl⟩;rw[hfm]at h25;simp only[hp]at h25;have HNX:Hid (P8 s.wd (Pm ls c t) (s.ts,true)=(I,b&&b')):=by show _=_;rw[a2g,hfm,Xx,HPA.out];simp only[];rw[hp]
 clear hp HP HPA
 go_upto_region 14 with fail
 go_cut[15,16] from 60 to 66 (λvp vb V=>∃B L O:Nat,vp=.pointer (some ⟨B,0,none⟩)/\vb=.bool b'/\Hid (Cl V B 43 [.int .i64 s.wd,.slice (some ⟨L,0,none⟩) I.length O,.slice W s.rs.length U])/\Hid (V.ownsRow Y.heap.size 9 1 (.slice (some ⟨L,0,none⟩) I.length O) I.length (I.map Value.string))/\Hid (Bw wr V))
 case first=>
  have J:Hid (∀u,Bw wr u->u.cell? ⟨A,0,none⟩=some (.int .i64 s.wd)/\u.cell? ⟨A,1,none⟩=some (.slice (some ⟨gg,0,none⟩) T.length cc)/\u.cell? ⟨A,2,none⟩=some (.slice W s.rs.length U)/\u.cell? ⟨w.heap.size+2,0,none⟩=some (.int .i64 c)/\u.cell? ⟨w.heap.size+2,1,none⟩=some (.string t)):=λu k=>have C:=n.out.cl.below k n.out.cl.lt;⟨C.cell 0,C.cell 1,C.cell 2,have D:=(p.out _ (J5 n.out.bw k)).1.2.2.1;⟨D.cell 0,D.cell 1⟩⟩
  have d:=(G5 wr.heap.size wr).drew;refine FI J d Y1 λhH=>?_;generalize wr.drew=y at*
  iterate 2 refine sq ?_
  refine wpAnyH_ready (rs:=[2,7]) Y1 E5 ?_;refine AllReadyH.cons (o:=⟨some 63,.call ⟨.value (.func 179),#[.tmp 62],#[72]⟩,9,_,_,none⟩) rfl (λK g=>?_) (AllReadyH.cons (o:=⟨some 15,.alloc 43,0,_,_,none⟩) rfl (λK g=>?_) AllReadyH.nil);rotate_left
  focus
   go_simp;obtain⟨z,e,H,hB,hz⟩:=QG [.int .i64 0,.slice none 0 0,.slice none 0 0] 43 d;rw[e];clear e
   try replace R:=U0 (own_below R.out hz)
   replace d:=J5 d hz
   refine A8 g (J.out _ d) λhH=>?_;clear g K hz;refine rq 2 λK g=>?_
  all_goals
   go_simp;refine(lZ c t N _ hfm O0).mono ?_;rintro e z⟨rfl,l⟩
   try replace H:=U0 (H.out.below l H.out.lt)
   replace d:=J5 d l
   clear l;go_simp;refine A8 g (J.out _ d) λhH=>?_;clear g K
  refine rq 3 λK g=>?_;rotate_left;refine wpAnyH_ready (rs:=[3,7]) Y1 E5 ?_;refine AllReadyH.cons (o:=⟨some 64,.call ⟨.value (.func 178),#[.tmp 61,.tmp 63],#[43,9]⟩,227,_,_,none⟩) rfl (λK g=>?_) (AllReadyH.cons (o:=⟨some 15,.alloc 43,0,_,_,none⟩) rfl (λK g=>?_) AllReadyH.nil);rotate_left
  focus
   go_simp;obtain⟨z,e,H,hB,hz⟩:=QG [.int .i64 0,.slice none 0 0,.slice none 0 0] 43 d;rw[e];clear e
   try replace R:=U0 (own_below R.out hz)
   replace d:=J5 d hz
   refine A8 g (J.out _ d) λhH=>?_;clear g K hz;refine rq 3 λK g=>?_
  all_goals
   go_simp;refine(h25 _ d).mono ?_;rintro e z⟨⟨L,O,rfl,hr⟩,l⟩;have R:=U0 hr;clear hr
   try replace H:=U0 (H.out.below l H.out.lt)
   replace d:=J5 d l
   clear l;go_simp;refine A8 g (J.out _ d) λhH=>?_;clear g K;refine p_ 4 ?_;refine p_ 5 ?_;refine p_ 6 ?_
  rotate_left 2
  focus
   refine rq 7 λK g=>?_;go_simp;obtain⟨z,e,H,hB,hz⟩:=QG [.int .i64 0,.slice none 0 0,.slice none 0 0] 43 d;rw[e];clear e
   try replace R:=U0 (own_below R.out hz)
   replace d:=J5 d hz
   refine A8 g (J.out _ d) λhH=>?_;clear g K hz
  all_goals
   refine rq 8 λK g=>?_;refine t_ rfl 43 _ _ rfl (j:=0) rfl rfl H.out X7 (Y5 rfl) Y1 ?_;intro E cz F;have RE:=I5 R.out (λq X=>F.block q (λe=>absurd (Z8 (N7 R.out X) (e▸K_ H.out)) Z5))
   replace d:=d.trans (F.below hB)
   refine A8 g (J.out _ d) λhH=>?_;clear g K;refine sq ?_;refine wdn ?_
   go_wp2_with fail
   go_meet
   exact⟨_,L,O,rfl,rfl,cz,RE,d⟩
 obtain⟨B,L,O,rfl,rfl,HX,HY,HZ⟩:=hcut;have HL2:=U0 (n.out.below HZ.out)
 go_upto_region 16 with(first|(refine Oe HX.out rfl 43 _ rfl rfl underlying43 rfl Y1 ?_)|(refine I7 rfl 43 _ _ rfl (j:=0) rfl rfl HL2.out.cl X7 (Y5 rfl) Y1 ?_;intro z Q F))
 replace n:=U0 (GU HL2.out HY.out F Q)
 try simp only[qq]
 go_cut[11] from 68 to 71 (λv V=>v=.bool (b&&b')/\V=z)
 case first=>
  cases b
  all_goals
   go_wp2_with fail
   go_meet
   exact⟨rfl,rfl⟩
 obtain⟨rfl,hzz⟩:=hcut;subst hzz;generalize (b&&b')=bb at*;clear Q F HL2 HX HY HZ
 go_wp2_with(first|(refine H8 (p.out _ n.out.bw).1.2.1 rfl 69 _ rfl (j:=0) [.string m.nm,.string m.tl,.string m.ar] rfl rfl underlying69 rfl Y1 ?_)|(refine H8 (p.out _ n.out.bw).1.2.2.1 rfl 72 _ rfl (j:=0) [.int .i64 c,.string t] rfl rfl underlying72 rfl Y1 ?_)|(refine N8 (p.out _ n.out.bw).1.1 rfl 3 _ rfl rfl rfl Y1 ?_)|(refine(a5g m ls c t s.wd la lc _ ⟨I8 hm.1 O0,I8 hm.2.1 O0,I8 hm.2.2 O0⟩ O0 hfs hl (λi=>⟨I8 (hls i).2 O0,jM (hls i).2⟩) (U7 HL.out (p.out _ n.out.bw).2)).mono ?_;rintro e w5⟨⟨v5,rfl,hv5⟩,hb5⟩;obtain⟨a5,c5,rfl⟩:=V9 hv5))
 rw[a1j]at hv5;have HV5:=U0 hv5;clear hv5;obtain⟨x0,hx0⟩:∃x:R3,x=Ri s.wd m ls c t:=⟨_,rfl⟩;generalize hsm:G7 (I4 (g_ c t.data.toList)) s.wd=sm at*;have hx1:=U0 hx0.symm
 replace hx0:Hid (x0=⟨uf m,ls.map (Dy s.wd),sm⟩):=U0 (by rw[hx0,<- hsm];rfl)
 clear hsm;obtain⟨E6,e6,BR6,_,a6o⟩:=QG [.string (uf m),.slice a5 ls.length c5,.string sm] 162 (G5 w5.heap.size w5);rw[e6];clear e6;have L6:=U0 ((n.out.below hb5).below a6o);have HGL:=U0 (WL (gs:=ls.map (Dy s.wd)) (c:=c5) (by rw[Cf];exact HV5.out));go_loopw[18,19] (λth i wr=>∃(k:Nat)(b2:Bool),k<=s.rs.length/\th=.bool b2/\i=.int .i64 k/\Hid (b2=true↔∃j,j<k/\s.rs.getD j h_=x0)/\Below E6.heap.size E6 wr) (λ_ i _=>s.rs.length-(Go.RowKit.intOf i).toNat);exact⟨0,false,J4 _,rfl,rfl,by show _↔_;simp,G5 _ _⟩;obtain⟨k,b2,hk,rfl,rfl,X,hbr⟩:=hrel;have HLr:=U0 (L6.out.below hbr);have hsl:=hs.2.1;have o2:wr.cell? ⟨A,2,none⟩=some (.slice W s.rs.length U):=HLr.out.cl.cell 2;by_cases hlt:k<s.rs.length
 ·cases b2
  rotate_left
  ·have HQ:Hid (∃j,j<k+1/\s.rs.getD j h_=x0):=by obtain⟨j,hj,e⟩:=X.out.1 rfl;exact⟨j,O0,e⟩
   clear X
   go_wp2_with fail
   refine wp_region_held_drew (S:=(λ_=>True)) Y1 ?_ λhHeld=>?_
   · ((try dsimp only);all_goals trivial)
   iterate 11 refine sq ?_
   refine wdn ?_;go_wp2;go_roundw;exact⟨k+1,true,O0,rfl,by go_num,⟨λ_=>HQ.out,λ_=>rfl⟩,hbr.drew⟩;exact Z9
  rcases aH HLr.out.rc with he|⟨rb,ro,hra,hrb,hcell⟩
  ·rw[he]at hlt;exact absurd hlt (y9 _)
  subst hra;obtain⟨ai,ci,g0,g1,g2,g3⟩:=hcell k hlt;clear hcell;have h28:=c117 (s.rs.getD k h_) ⟨uf m,ls.map (Dy s.wd),sm⟩ ai a5 ci c5 wr.drew (hs.2.2 k).2.1 (by simpa using hl) (I9 g3 (G5 _ _).drew) (I9 HGL.out ((J5 a6o hbr).trans ((G5 wr.heap.size wr).drew.mono (J5 a6o hbr).size)));simp only[Cf]at h28;rw[<- hx0.out]at h28;have HQ:Hid (∀b:Bool,(b=true↔s.rs.getD k h_=x0)->(b=true↔∃j,j<k+1/\s.rs.getD j h_=x0)):=λb l=>by
   rw[l];constructor
   ·intro e;exact⟨k,O0,e⟩
   rintro⟨j,hj,e⟩;rcases D8 j k with h|h
   ·exact absurd (X.out.2 ⟨j,h,e⟩) Z5
   obtain rfl:j=k:=O0;exact e
  generalize s.rs.getD k h_=x at*;clear X;have J:Hid (∀u,Bw wr u->u.cell? ⟨A,2,none⟩=some (.slice (some ⟨rb,ro,none⟩) s.rs.length U)/\u.cell? ⟨rb,ro+k*3,none⟩=some (.string x.key)/\u.cell? ⟨rb,ro+k*3+1,none⟩=some (.slice ai x.gs.length ci)/\u.cell? ⟨rb,ro+k*3+2,none⟩=some (.string x.out)/\u.cell? ⟨w5.heap.size,0,none⟩=some (.string (uf m))/\u.cell? ⟨w5.heap.size,1,none⟩=some (.slice a5 ls.length c5)/\u.cell? ⟨w5.heap.size,2,none⟩=some (.string sm)):=λu h=>have B:=BR6.out.below (J5 hbr h) BR6.out.lt;⟨(h.cell (by exact HLr.out.cl.lt)).trans o2,(h.cell (by exact hrb)).trans g0,(h.cell (by exact hrb)).trans g1,(h.cell (by exact hrb)).trans g2,B.cell 0,B.cell 1,B.cell 2⟩
  have k0:=(G5 wr.heap.size wr).drew
  go_wp2_with fail
  refine FI J k0 Y1 λhH=>?_
  iterate 8 refine sq ?_
  refine rq 8 λK g=>?_;go_simp;refine h28.mono ?_;rintro e w7⟨⟨bo,rfl,hbo⟩,hb7⟩
  replace k0:=J5 k0 hb7
  go_wp2_with fail
  refine A8 g (J.out _ k0) λhH=>?_;clear g K
  iterate 2 refine sq ?_
  refine wdn ?_;go_wp2;go_roundw;exact⟨k+1,bo,O0,rfl,by go_num,HQ.out bo hbo,J5 hbr k0⟩;exact Z9
 obtain rfl:k=s.rs.length:=O0;have hmem:=U0 (JI X.out);clear X
 go_upto_if 96 with fail
 go_cut[] from 97 to 102 (λV=>∃(P:List R3)(a6:OA)(c6:Nat)(vs:List Value),Hid (Vg s.rs x0=P)/\Hid (LD Y A s.wd I L O P a6 c6 vs V))
 case first=>
  cases b2
  rotate_left
  ·go_wp2_with fail
   go_meet
   exact⟨_,_,_,_,by show Vg _ _=_;unfold Vg;rw[if_pos (by simpa using hmem.out)],HLr⟩
  go_wp2_with(first|(refine Oe (BR6.out.below hbr BR6.out.lt) rfl 162 _ rfl rfl underlying162 rfl Y1 ?_)|(refine Vd rfl _ _ 41 rfl Y.heap.size 162 3 underlying41 (Zc Y1) Z5 _ _ _ rfl (own_below HLr.out.rc.row Y6) _ 1 [.string (uf m),.slice a5 ls.length c5,.string sm] rfl (.inr ⟨⟨wr.heap.size,0,none⟩,1,rfl,rfl,Ti (X4 wr [.string (uf m),.slice a5 ls.length c5,.string sm] 162)⟩) (Y5 rfl) (by have:=hs.2.1;omega) (by have:=HLr.out.bw.size;simp;omega) ?_;intro v6 w6 hown hg _;obtain⟨a6,c6,rfl⟩:=V9 hown)|(refine Cc rfl _ _ _ rfl rfl rfl Y1 (kZ HLr.out hg) E5 ?_;intro z6 C6 o6))
  go_meet
  exact⟨_,_,_,_,by show Vg _ _=_;unfold Vg;rw[if_neg (λh=>absurd (hmem.out.2 h) Z5),hx0.out],MZ (y:=⟨uf m,ls.map (Dy s.wd),sm⟩) n.out (List.length_map _) (J5 (J5 hb5 a6o) hbr) (own_below HV5.out (J5 a6o hbr)) hown hg o6 C6.out⟩
 obtain⟨P,a6,c6,vs6,HPR,Z⟩:=hcut;clear n HLr L6 HV5 HGL BR6 hmem;cases bb
 ·have HK:=U0 (gX HOK.out HRK.out HNX.out)
  go_wp2_with(refine I7 rfl 43 _ _ rfl (j:=0) rfl rfl (p.out _ Z.out.bw).1.2.2.2 X7 (Y5 rfl) Y1 ?_;intro z Q F)
  exact kE rfl rfl Q ⟨Tn HK.out,(p.out _ Z.out.bw).2.trans (F.below O0)⟩
 have p1:wc.cell? ⟨A,1,none⟩=some (.slice (some ⟨L,0,none⟩) I.length O):=Z.out.cl.cell 1;have p2:wc.cell? ⟨A,2,none⟩=some (.slice a6 P.length c6):=Z.out.cl.cell 2;by_cases h3:(300:Int)<I.length<;>by_cases h1:(150:Int)<P.length
 all_goals go_wp2_with(first|(refine I7 rfl 43 _ _ rfl (j:=0) rfl rfl (p.out _ Z.out.bw).1.2.2.2 X7 (Y5 rfl) Y1 ?_;intro z Q F)|(refine Oe Z.out.cl rfl 43 _ rfl rfl underlying43 rfl Y1 ?_)|(refine I7 rfl 43 _ _ rfl (j:=0) rfl rfl (p.out _ Z.out.bw).1.2.2.2 X7 (Y5 rfl) Y1 ?_;intro z Q F))
 rotate_left 3;exact kE rfl rfl Q ⟨YM (JW HOK.out HRK.out HNX.out (hx1.out▸HPR.out) O0 O0) (ky Z.out F S0.out),(p.out _ Z.out.bw).2.trans (F.below O0)⟩
 all_goals exact kE rfl rfl Q ⟨Tn (JV HOK.out HRK.out HNX.out (hx1.out▸HPR.out) O0),(p.out _ Z.out.bw).2.trans (F.below O0)⟩
open Go.RowKit
theorem rM{a:OA}{m:Nat}:Src u (.slice a 0 c) m 0 []:=by
 cases a with
 | none=>exact .inl ⟨⟨c,rfl⟩,rfl,rfl⟩
 | some p=>exact .inr ⟨p,c,rfl,by simp,λj u e=>by simp at e⟩
def cE{α:Type}(E:α×Value->List Value)(d:α)(is:List α)(vs:List Value):List Value:=(List.range is.length).flatMap λi=>E (is.getD i d,vs.getD i undef)
section
variable{α β:Type}{E:α×Value->List Value}{d:α}{is:List α}{vs vs0:List Value}{m j k q n mi N:Nat}{v:Value}{inn:α->List β}{f:β->List Value}{T TI:TypeId}{w u:World}
theorem Bz(a:∀p,(E p).length=m):(cE E d is vs).length=is.length*m:=by
 unfold cE;rw[Gg (λ_=>a _),List.length_range]
theorem Wn(b:∀p,(E p).length=m)(a:q<is.length)(c:j<m):(cE E d is vs)[q*m+j]?=(E (is.getD q d,vs.getD q undef))[j]?:=by
 have hl:j<(E (is.getD q d,vs.getD q undef)).length:=by rw[b];exact c
 rw[L9 hl];refine Fh (d:=0) (f:=λi=>E (is.getD i d,vs.getD i undef)) (λ_=>b _) (List.range is.length) q (by simpa using a) j _ ?_;rw[show(List.range is.length).getD q 0=q from by simp[List.getD,a]];exact L9 hl
theorem GZ(c:∀p,(E p).length=m)(n:∀x a b,(E (x,a)).set j b=E (x,b))(hj:j<m)(t:k<is.length)(hl:vs.length=is.length):(cE E d is vs).set (k*m+j) v=cE E d is (vs.set k v):=by
 have s:=U9 (show k*m+j<(k+1)*m by rw[Tj];omega) (Io _ t);apply List.ext_getElem?;intro p;rcases D8 p (is.length*m)with g|g;rotate_left
 ·rw[Zb (by rw[qj,Bz c];exact g),Zb (by rw[Bz c];exact g)]
 have hm:0<m:=by omega
 obtain⟨q,r,hr,rfl⟩:∃q r,r<m/\p=q*m+r:=⟨p/m,p % m,KE _ hm,by rw[bG];exact(fJ p m).symm⟩;have f:q<is.length:=by
  rcases D8 q is.length with h|h
  ·exact h
  have:=Io m h;omega
 rw[Wn c f hr];by_cases l:q=k
 ·subst l;rw[show(vs.set q v).getD q undef=v from by simp[List.getD,show q<vs.length by omega]];rw[<- n _ (vs.getD q undef) v];by_cases i:r=j
  ·subst i;rw[Po (by rw[Bz c];exact s),Po (by rw[c];exact hr)]
  rw[H_ (by omega),H_ (Ym i),Wn c f hr]
 have o:k*m+j≠q*m+r:=λe=>by
  rcases D8 q k with h|h
  ·have:=Io m h;rw[Tj]at this;omega
  have:=Io m (show k+1<=q by omega);rw[Tj]at this;omega
 rw[H_ o,Wn c f hr,show(vs.set k v).getD q undef=vs.getD q undef from by simp[List.getD,H_ (Ym l)]]
theorem dV(h1:∀x a n c,∀u∈E (x,.slice a n c),u.oneCell'=true)(h:∀i,i<is.length->∃a n c,vs.getD i undef=.slice a n c):∀u∈cE E d is vs,u.oneCell'=true:=by
 intro u b;unfold cE at b;obtain⟨i,f,hm⟩:=Gv.1 b;obtain⟨a,n,c,e⟩:=h i (Ip.1 f);rw[e]at hm;exact h1 _ _ _ _ u hm
theorem UR{a:OA}{LS:World->OA->List β->Prop}(c:Nat)(n:∀p,(E p).length=m)(hm:0<m)(B:∀p,(E p)[j]?=some p.2)(h:vw w a is d m λw b o x=>∃f g,Bc w b o (E (x,.slice f (inn x).length g))/\LS w f (inn x)):∃vs,vs.length=is.length/\(∀u,Bw w u->Src u (.slice a is.length c) m is.length (cE E d is vs))/\∀i,i<is.length->∃f g,vs.getD i undef=.slice f (inn (is.getD i d)).length g/\LS w f (inn (is.getD i d)):=by
 rcases h with rfl|⟨b,off,rfl,C,h⟩
 ·exact⟨[],rfl,λu _=>rM,λi l=>absurd l (y9 _)⟩
 obtain⟨vs,t⟩:∃vs,vs=(List.range is.length).map λi=>(w.cell? ⟨b,off+i*m+j,none⟩).getD undef:=⟨_,rfl⟩;have y:∀i,i<is.length->∃f g,vs.getD i undef=.slice f (inn (is.getD i d)).length g/\LS w f (inn (is.getD i d))/\Bc w b (off+i*m) (E (is.getD i d,vs.getD i undef)):=λi l=>by
  obtain⟨f,g,s,z⟩:=h i l;have e0:=s j _ (B _);have e:vs.getD i undef=.slice f (inn (is.getD i d)).length g:=by rw[t];simp[List.getD,l]at e0 ⊢;rw[e0];rfl
  exact⟨f,g,e,z,by rw[e];exact s⟩
 refine⟨vs,by rw[t];simp,λu A=>.inr ⟨_,c,rfl,Bz n,λp x hx=>?_⟩,λi l=>by obtain⟨f,g,e,k,_⟩:=y i l;exact⟨f,g,e,k⟩⟩;have hp:p<is.length*m:=by have:=(Zi.1 hx).1;rwa[Bz n]at this
 obtain⟨q,r,hr,rfl⟩:∃q r,r<m/\p=q*m+r:=⟨p/m,p % m,KE _ hm,by rw[bG];exact(fJ p m).symm⟩;have v:q<is.length:=by
  rcases D8 q is.length with h|h
  ·exact h
  have:=Io m h;omega
 obtain⟨_,_,_,_,k⟩:=y q v;rw[Wn n v hr]at hx;rw[Bo,A.cell (by exact C),<- Kv];exact k r x hx
structure YB(E:α×Value->List Value)(d:α)(inn:α->List β)(f:β->List Value)(T m TI mi:Nat)(N:Nat)(is:List α)(vs0:List Value)(v:Value)(k:Nat)(vs:List Value)(w:World):Prop where
 len:vs.length=is.length
 row:w.ownsRow N T m v is.length (cE E d is vs)
 gl:∀i,i<k->∃a c,vs.getD i undef=.slice a (inn (is.getD i d)).length c/\w.ownsRow N TI mi (.slice a (inn (is.getD i d)).length c) (inn (is.getD i d)).length ((inn (is.getD i d)).flatMap f)
 old:∀i,k<=i->vs.getD i undef=vs0.getD i undef
 apart:∀i j,i<k->j<k->i≠j->(vs.getD i undef).ownBlock=none\/(vs.getD i undef).ownBlock≠(vs.getD j undef).ownBlock
theorem YB.keep(h:YB E d inn f T m TI mi N is vs0 v k vs w)(g:∀q t,Ah w q t->t=T\/t=TI->N<=q->u.heap[q]?=w.heap[q]?):YB E d inn f T m TI mi N is vs0 v k vs u:=⟨h.len,I5 h.row (λq b=>g q T (N7 h.row b) (.inl rfl) (Z4 h.row b)),λi j=>by obtain⟨a,c,e,o⟩:=h.gl i j;exact⟨a,c,e,I5 o (λq b=>g q TI (N7 o b) (.inr rfl) (Z4 o b))⟩,h.old,h.apart⟩
theorem YB.next{g c l:Nat}{a:OA}(h:YB E d inn f T m TI mi N is vs0 (.slice (some ⟨g,0,none⟩) is.length c) k vs w)(K:∀p,(E p).length=m)(F:∀x a b,(E (x,a)).set j b=E (x,b))(B:j<m)(hT:TI≠T)(z:k<is.length)(C:Bw w u)(ho:u.ownsRow w.heap.size TI mi (.slice a (inn (is.getD k d)).length l) (inn (is.getD k d)).length ((inn (is.getD k d)).flatMap f)):
 YB E d inn f T m TI mi N is vs0 (.slice (some ⟨g,0,none⟩) is.length c) (k+1) (vs.set k (.slice a (inn (is.getD k d)).length l)) (u.setCell ⟨g,k*m+j,none⟩ (.slice a (inn (is.getD k d)).length l)):=by
 have hgl:g<w.heap.size:=X9 h.row rfl;have J:N<=w.heap.size:=by have:=Z4 h.row (k:=g) rfl;omega
 have hR:=own_below h.row C;have hw:=O_ u g (k*m+j) (.slice a (inn (is.getD k d)).length l);have H:k<vs.length:=by rw[h.len];exact z
 have gs:∀i,i≠k->(vs.set k (.slice a (inn (is.getD k d)).length l)).getD i undef=vs.getD i undef:=λi s=>by simp[List.getD,H_ (Ym s)]
 have gk:(vs.set k (.slice a (inn (is.getD k d)).length l)).getD k undef=.slice a (inn (is.getD k d)).length l:=by simp[List.getD,H]
 have v:∀{n:Nat}{xs:List Value}{y:Value}{M:Nat},u.ownsRow M TI mi y n xs->(u.setCell ⟨g,k*m+j,none⟩ (.slice a (inn (is.getD k d)).length l)).ownsRow M TI mi y n xs:=λo=>I5 o (λq r=>hw.block q (λe=>by
  subst e;exact hT (Z8 (N7 o r) (N7 hR rfl))))
 refine⟨by rw[qj];exact h.len,?_,λi s=>?_,λi s=>?_,λi j s B I=>?_⟩
 ·have o:=(hR.stored (k*m+j) (.slice a (inn (is.getD k d)).length l)).1;rw[GZ K F B z h.len]at o;exact o
 ·by_cases t:i=k
  ·subst t;exact⟨a,l,gk,P7 (v ho) J⟩
  obtain⟨a1,D,e,o⟩:=h.gl i O0;exact⟨a1,D,(gs i t).trans e,v (own_below o C)⟩
 ·rw[gs i O0];exact h.old i O0
 have fr:∀i,i<k->∀q,(vs.getD i undef).ownBlock=some q->q<w.heap.size:=λi s q r=>by
  obtain⟨a1,D,e,o⟩:=h.gl i s;rw[e]at r;exact X9 o r
 by_cases t:i=k
 ·subst t;rw[gk,gs j O0]
  cases r:(Value.slice a (inn (is.getD i d)).length l).ownBlock with
  | none=>exact .inl rfl
  | some q=>exact .inr λe=>by have:=fr j O0 q e.symm;have:=Z4 ho r;omega
 rw[gs i t];by_cases A:j=k
 ·subst A;rw[gk]
  cases r:(vs.getD i undef).ownBlock with
  | none=>exact .inl rfl
  | some q=>exact .inr λe=>by have:=fr i O0 q r;have:=Z4 ho e.symm;omega
 rw[gs j A];exact h.apart i j O0 O0 I
end
theorem YV{w:World}{a:OA}{rs:List R3}(h:ug w a rs):vw w a rs h_ 3 λw b o x=>∃c d,Bc w b o (uJ (x,.slice c x.gs.length d))/\R_ w c x.gs:=h.imp id λ⟨b,off,h1,h2,m⟩=>⟨b,off,h1,h2,λi l=>by
 obtain⟨c,d,k,j,g,f⟩:=m i l;refine⟨c,d,λq v e=>?_,f⟩;rcases q with _|_|_|q
 ·cases e;exact k
 ·cases e;exact j
 ·cases e;exact g
 cases e⟩
end Go.Proofs.YtkccjgajimjjdaaGreatDoor
namespace Go.Proofs.YtkccjgajimjjdaaGreatDoor.G
open Proofs.Tryz Go.RowKit
section
variable{w:World}{l:LB}{b s:BY}
def yH(w:World)(a:OA)(l:LB):Prop:=l=[]\/∃b off,a=some ⟨b,off,none⟩/\b<w.heap.size/\∀i,i<l.length->w.cell? ⟨b,off+i,none⟩=some (.string (l.getD i ⟨#[]⟩))
theorem sH{a:OA}(h:yH w a l):∃b off,(l=[]\/(a=some ⟨b,off,none⟩/\b<w.heap.size/\∀i,i<l.length->w.cell? ⟨b,off+i,none⟩=some (.string (l.getD i ⟨#[]⟩)))):=by
 rcases h with h|⟨b,off,h⟩
 ·exact⟨0,0,.inl h⟩
 exact⟨b,off,.inr h⟩
def iO(l:LB)(s:BY):Bool:=l.any λx=>decide (x=s)
theorem Gi:iO l s=true↔s∈l:=by
 simp[iO]
theorem c64(a:OA)(cap:Nat)(l:LB)(s:BY)(w:World)(hl:l.length<=1000)(p:yH w a l):
 Calls prog 64 #[.slice a l.length cap,.string s] w λe w'=>e=.returned (.bool (iO l s))/\w'=w:=by
 obtain⟨b,off,hc⟩:=sH p;have r:=U0 hc
 go_in
 go_wp2;go_loopw[5] (λc wr=>∃k:Nat,k<=l.length/\c=.int .i64 k/\wr=w/\Hid (∀j,j<k->l.getD j ⟨#[]⟩≠s)) (λc _=>l.length-(RowKit.intOf c).toNat);exact⟨0,J4 _,rfl,rfl,λj h=>absurd h (y9 _)⟩;obtain⟨k,hk,rfl,rfl,hd⟩:=hrel;by_cases f:k<l.length;rotate_left
 ·have g:Hid (iO l s=false):=by
   show _=_;rw[<- Bool.not_eq_true,Gi];intro hm;obtain⟨j,n,rfl⟩:=Ze hm;exact hd j O0 (by simp[List.getD,L9 n])
  clear hd;go_wp2;go_ret;exact⟨by rw[g.out];rfl,rfl⟩
 obtain⟨ha,hbw,o⟩:=Jd r.out f;subst ha;have g0:=o k f;have i:Hid (l.getD k ⟨#[]⟩∈l):=by show _∈_;simp[List.getD,L9 f]
 have m:Hid (l.getD k ⟨#[]⟩≠s->∀j,j<k+1->l.getD j ⟨#[]⟩≠s):=λh j n=>by
  rcases D8 j k with h1|h1
  ·exact hd.out j h1
  obtain rfl:j=k:=O0;exact h
 generalize l.getD k ⟨#[]⟩=x at*;clear o;cases hq:(x.toList==s.toList);rotate_left
 ·have d:x=s:=by
   have:=Gp.1 hq;rw[ByteArray.toList_eq,ByteArray.toList_eq]at this;exact Xf (Zl.1 this)
  subst d;have g:=U0 (Gi.2 i.out);clear m hd i;go_wp2;go_ret;exact⟨by rw[g.out];rfl,rfl⟩
 have d:x≠s:=λe=>by rw[e]at hq;simp at hq
 have q:=U0 (m.out d);clear m hd i;go_wp2;go_roundw;exact⟨k+1,O0,by go_num,trivial,q⟩;exact Z9
end
theorem c198(a:OA)(cap:Nat)(l:LB)(s:BY)(w:World)(hl:l.length<=1000)(o:yH w a l):
 Calls prog 198 #[.slice a l.length cap,.string s] w λe w'=>(∃r:Int,e=.returned (.int .i64 r)/\(0<=r↔s∈l))/\w'=w:=by
 obtain⟨b,off,hc⟩:=sH o;have t:=U0 hc
 go_in
 go_wp2;go_loopw[8] (λc wr=>∃k:Nat,k<=l.length/\c=.int .i64 k/\wr=w/\Hid (∀j,j<k->l.getD j ⟨#[]⟩≠s)) (λc _=>l.length-(RowKit.intOf c).toNat);exact⟨0,J4 _,rfl,rfl,λj h=>absurd h (y9 _)⟩;obtain⟨k,hk,rfl,rfl,hd⟩:=hrel;by_cases f:k<l.length;rotate_left
 ·have p:Hid (s∉l):=λhm=>by
   obtain⟨j,i,rfl⟩:=Ze hm;exact hd.out j O0 (by simp[List.getD,L9 i])
  clear hd;go_wp2;go_ret;exact⟨⟨-1,rfl,⟨λh=>O0,λh=>absurd h p.out⟩⟩,rfl⟩
 obtain⟨ha,hbw,m⟩:=Jd t.out f;subst ha;have g0:=m k f;have n:Hid (l.getD k ⟨#[]⟩∈l):=by show _∈_;simp[List.getD,L9 f]
 have g:Hid (l.getD k ⟨#[]⟩≠s->∀j,j<k+1->l.getD j ⟨#[]⟩≠s):=λh j i=>by
  rcases D8 j k with h1|h1
  ·exact hd.out j h1
  obtain rfl:j=k:=O0;exact h
 generalize l.getD k ⟨#[]⟩=x at*;clear m;cases hq:(s.toList==x.toList);rotate_left
 ·have d:s=x:=by
   have:=Gp.1 hq;rw[ByteArray.toList_eq,ByteArray.toList_eq]at this;exact Xf (Zl.1 this)
  subst d;clear g hd;go_wp2;go_ret;exact⟨⟨k,rfl,⟨λ_=>n.out,λ_=>O0⟩⟩,rfl⟩
 have d:x≠s:=λe=>by rw[e]at hq;simp at hq
 have q:=U0 (g.out d);clear g hd n;go_wp2;go_roundw;exact⟨k+1,O0,by go_num,trivial,q⟩;exact Z9
theorem a4N(a:OA)(cap:Nat)(l:LB)(s:BY)(w:World)(hl:l.length<=1000)(d:yH w a l):
 Calls prog 149 #[.slice a l.length cap,.string s] w λe w'=>e=.returned (.bool (iO l s))/\w'=w:=by
 have h:=c198 a cap l s w hl d
 go_in
 go_wp2_with fail
 refine h.mono ?_;rintro e w1⟨⟨r,rfl,hr⟩,rfl⟩;clear h;by_cases h0:0<=r
 ·have b:=U0 (Gi.2 (hr.1 h0));clear hr;go_wp2;go_ret;exact⟨by rw[b.out];rfl,rfl⟩
 have b:Hid (iO l s=false):=by show _=_;rw[<- Bool.not_eq_true,Gi];exact λh=>h0 (hr.2 h)
 go_wp2;go_ret;have c:decide (0<=r)=false:=by simpa using h0
 exact⟨by rw[b.out,c];rfl,rfl⟩
end Go.Proofs.YtkccjgajimjjdaaGreatDoor.G
namespace Go.Proofs.YtkccjgajimjjdaaGreatDoor
open Proofs.Tryz Go.RowKit
variable{α:Type}{w:World}{a:OA}
theorem Ro{is:List α}{d:α}{f:α->List Value}{m:Nat}(c:Nat)(hf:∀x,(f x).length=m)(hm:0<m)(h:is=[]\/∃b off,a=some ⟨b,off,none⟩/\b<w.heap.size/\∀i,i<is.length->∀q v,(f (is.getD i d))[q]?=some v->w.cell? ⟨b,off+(i*m+q),none⟩=some v)(u:World)(k:Bw w u):Src u (.slice a is.length c) m is.length (is.flatMap f):=by
 rcases h with rfl|⟨b,off,rfl,o,h⟩
 ·exact rM
 refine .inr ⟨_,c,rfl,Gg hf is,λj x hx=>?_⟩;have n:j<is.length*m:=by have:=(Zi.1 hx).1;rwa[Gg hf]at this
 have g:=(Nat.div_lt_iff_lt_mul hm).2 n;have l:j % m<m:=KE _ hm;have e:j/m*m+j % m=j:=by rw[bG];exact fJ j m
 have hl:j % m<(f (is.getD (j/m) d)).length:=by rw[hf];exact l
 have h1:=h (j/m) g (j % m) _ (L9 hl);have h2:=Fh (d:=d) hf is (j/m) g (j % m) _ (L9 hl);rw[e]at h1 h2;rw[Bo,k.cell (by exact o),h1,<- h2,hx]
theorem Ou{is:List α}{f:α->List Value}(h:∀x,∀v∈f x,v.oneCell'=true):∀v∈is.flatMap f,v.oneCell'=true:=λv hv=>by
 obtain⟨x,_,hx⟩:=Gv.1 hv;exact h x v hx
theorem rU(f:α->Value)(l:List α):l.map f=l.flatMap λx=>[f x]:=by
 induction l with
 | nil=>rfl
 | cons x l ih=>rw[Fp,Hg,ih];rfl
theorem jD{fs:List T.F2}(c:Nat)(h:T.G6 w a fs):∀u,Bw w u->Src u (.slice a fs.length c) 2 fs.length (T.U3 fs):=
 Ro (d:=T.G9) c (λ_=>rfl) Z5 (h.imp id λ⟨b,off,h1,h2,k⟩=>⟨b,off,h1,h2,λi j q v e=>by
  obtain⟨g,f⟩:=k i j;rw[<- Kv];rcases q with _|_|q
  ·cases e;exact g
  ·cases e;exact f
  cases e⟩)
theorem nH{is:List Int}(c:Nat)(h:Rf w a is):∀u,Bw w u->Src u (.slice a is.length c) 1 is.length (is.map (.int .i64)):=by
 rw[rU];exact Ro (d:=0) c (λ_=>rfl) Z5 (h.imp id λ⟨b,off,h1,h2,g⟩=>⟨b,off,h1,h2,λi f q v e=>by
  rcases q with _|q
  ·cases e;rw[Lm];exact g i f
  cases e⟩)
theorem jH{is:List Jb}(c:Nat)(h:ak w a is):∀u,Bw w u->Src u (.slice a is.length c) 3 is.length (is.flatMap yC):=
 Ro (d:=ve) c (λ_=>rfl) Z5 (h.imp id λ⟨b,off,h1,h2,g⟩=>⟨b,off,h1,h2,λi f q v e=>by rw[<- Kv];exact g i f q v e⟩)
theorem wC{is:List L4}(c:Nat)(h:S9 w a is):∀u,Bw w u->Src u (.slice a is.length c) 4 is.length (is.flatMap ny):=
 Ro (d:=M_) c (λ_=>rfl) Z5 (h.imp id λ⟨b,off,h1,h2,m⟩=>⟨b,off,h1,h2,λi l q v e=>by
  obtain⟨k,j,g,f⟩:=m i l;rw[<- Kv];rcases q with _|_|_|_|q
  ·cases e;exact k
  ·cases e;exact j
  ·cases e;exact g
  ·cases e;exact f
  cases e⟩)
theorem c93(a:OA)(fs:List T.F2)(c:Nat)(w:World)(m:fs.length<=1048576)(h:T.G6 w a fs):
 Calls prog 93 #[.agg #[.slice a fs.length c]] w λe w'=>(∃v,e=.returned (.agg #[v])/\w'.ownsRow w.heap.size 67 2 v fs.length (T.U3 fs))/\Bw w w':=by
 have p:=U0 (jD c h);clear h
 go_in
 go_upto_region 1 with fail
 have r:Hid (Cl ((w.alloc (.cells #[.slice a fs.length c] 40)).alloc (.cells #[.slice none 0 0] 40)) w.heap.size 40 [.slice a fs.length c]):=U8 (X4 w [_] 40) _;have b:Hid (Cl ((w.alloc (.cells #[.slice a fs.length c] 40)).alloc (.cells #[.slice none 0 0] 40)) (w.heap.size+1) 40 [.slice none 0 0]):=Ei (xs:=[_]) E5;have i:Hid (Bw w ((w.alloc (.cells #[.slice a fs.length c] 40)).alloc (.cells #[.slice none 0 0] 40))):=Y6.alloc E5 _;have hz:w.heap.size+2<=((w.alloc (.cells #[.slice a fs.length c] 40)).alloc (.cells #[.slice none 0 0] 40)).heap.size:=E5;generalize (w.alloc (.cells #[.slice a fs.length c] 40)).alloc (.cells #[.slice none 0 0] 40)=V at*
 go_wp2_with(refine N8 r.out rfl _ _ rfl rfl rfl Y1 ?_)
 refine(a1E _ fs.length (T.U3 fs) V m T.He (λu k=>p.out u (J5 i.out k))).mono ?_;rintro e w1⟨⟨v,rfl,ho⟩,d⟩;obtain⟨a1,o,rfl⟩:=D9 ho;have g:=U0 ho;have s:=U0 (J5 i.out d)
 replace b:=U0 (b.out.below d b.out.lt)
 clear ho d
 go_wp2_with(refine I7 rfl 40 _ _ rfl (j:=0) rfl rfl b.out X7 (Y5 rfl) Y1 ?_;intro z n f)
 refine Q7 (J7 (P:=prog) (ty:=40) rfl _ z (w.heap.size+1) [.slice a1 fs.length o] _ rfl n.blk underlying40 rfl Y1) rfl ⟨⟨_,rfl,?_⟩,s.out.trans (f.below O0)⟩;exact P7 (I5 g.out (λq l=>f.block q (by have:=Z4 g.out l;omega))) O0
