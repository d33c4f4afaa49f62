import Derived.Test.YtbgdfcmeheaiiaaGreatDooreEU
import Derived.Test.YtbgdfcmeheaiiaaGreatDooreES
set_option linter.unusedVariables false
set_option linter.unusedSimpArgs false
set_option maxHeartbeats 8000000
set_option maxRecDepth 100000
namespace Go.Proofs.YtbgdfcmeheaiiaaGreatDoor
open Proofs.Tryz Go.RowKit Go.Maps
variable{s:St}{m:M3}{ls:List L4}{A b0 c c2 g tc:Nat}{t:BY}{W W0:Int}{T ts:LB}{b:Bool}{V u w z:World}{P:List R3}{a2 ta:OA}{vs:List Value}
theorem aN{c:Int}(h:Zg s)(h2:¬bg m ls c t):J_ s m ls c t=(st0,2):=by
 simp[J_,h,h2]
theorem kZ(W:Int)(ls:List L4):bG W ls=gC (ls.map (Ux W)):=by
 unfold bG gC;rw[List.flatMap_map];rfl
theorem MF{fs:LB}(h:Q7 W fs (ts,true)=(T,b))(h1:∀i,(ts.getD i ByteArray.empty).size<=1048700)(h2:∀x∈fs,x.size<=1048700):∀i,(T.getD i ByteArray.empty).size<=1048700:=λi=>by
 rcases P7 i T.length with a|a
 ·have hm:=Ru a;have e:T=(Q7 W fs (ts,true)).1:=by rw[h]
  rw[e]at hm;rcases Nz fs _ hm with hx|hx
  ·rw[e];exact h2 _ hx
  obtain⟨j,c,d⟩:=Ce hx;have:=h1 j;simp only[List.getD,D9 c,Hg]at this;rw[e,<- d];exact this
 have:T.getD i ByteArray.empty=ByteArray.empty:=by simp[List.getD,Mc a]
 rw[this];exact I4 _
theorem BN(h:∀i,(ls.getD i l_).le 1048576)(k:Nat):∀x∈pK ls k,x.size<=1048700:=by
 have hm:∀l:List L4,(∀y∈l,y.tx.size<=1048576)->∀x∈(B_ l).map (λr=>BB r.1 r.2),x.size<=1048700:=by
  intro l
  induction l with
  | nil=>intro _ x hx;simp[B_]at hx
  | cons y r ih=>
   intro hl x hx;unfold B_ at hx;split at hx
   ·exact ih (λz a=>hl z (vg _ a)) x hx
   rw[Hr]at hx;rcases je.1 hx with rfl|hx
   ·have:=Gp y.cd y.tx;have:=hl y Nq;simp only[];omega
   exact ih (λz a=>hl z (vg _ a)) x hx
 refine hm _ λy b=>?_;obtain⟨j,c,e⟩:=Ce (VA b);have:=(h j).2;simp only[List.getD,D9 c,Hg]at this;rw[<- e];exact this
structure LD(V:World)(A:Nat)(W0:Int)(ts:LB)(g c:Nat)(P:List R3)(a2:OA)(c2:Nat)(vs:List Value)(W:World):Prop where
 cl:Cl W A 49 [.int .i64 W0,.slice (some ⟨g,0,none⟩) ts.length c,.slice a2 P.length c2]
 rc:Yg W V.heap.size (.slice a2 P.length c2) P vs
 tr:W.ownsRow V.heap.size 9 1 (.slice (some ⟨g,0,none⟩) ts.length c) ts.length (ts.map Value.string)
 na:V.heap.size<=A
 bw:Bw V W
theorem LD.below{W W':World}(h:LD V A W0 ts g c P a2 c2 vs W)(a:Bw W W'):LD V A W0 ts g c P a2 c2 vs W':=
 ⟨h.cl.below a h.cl.lt,h.rc.keep (λq t hT _ _=>a.block q (Tm hT)),own_below h.tr a,h.na,P5 h.bw a⟩
theorem zT{E i:World}{d f:Nat}{a:LB}(h:LD V A W0 T g c P a2 c2 vs E)(ho:E.ownsRow V.heap.size 9 1 (.slice (some ⟨d,0,none⟩) a.length f) a.length (a.map Value.string))(b:Wx A E i)(hc:Cl i A 49 [.int .i64 W0,.slice (some ⟨d,0,none⟩) a.length f,.slice a2 P.length c2]):LD V A W0 a d f P a2 c2 vs i:=by
 refine⟨hc,h.rc.keep (λq t hT j _=>b.block q (λe=>?_)),G7 ho (λq k=>b.block q (λe=>?_)),h.na,h.bw.trans (b.below h.na)⟩
 ·have l:=V9 hT (e▸E_ h.cl);rcases j with rfl|rfl<;>exact absurd l J6
 exact absurd (V9 (N9 ho k) (e▸E_ h.cl)) J6
theorem wY{a:World}{W:World}{o:Obj}(h:LD V A W0 ts g c P a2 c2 vs W)(b:(W.alloc o).grownBy a (Value.slice a2 P.length c2).ownBlock):Cl a A 49 [.int .i64 W0,.slice (some ⟨g,0,none⟩) ts.length c,.slice a2 P.length c2]:=
 (b.block A (by have:=h.cl.lt;simp;omega) (λe=>absurd (V9 (E_ h.cl) (N9 h.rc.row e.symm)) J6)).trans ((Lr _ _ _ h.cl.lt).trans h.cl)
theorem a0H{V1 f:World}{r s:OA}{p c16:Nat}{y:R3}{n:Nat}(h:LD V A W0 ts g c P a2 c2 vs V1)(D:y.gs.length=n)(l:Bw V1 f)(o:f.ownsRow V1.heap.size 256 3 (.slice r n p) n (gC y.gs))
 (v:u.ownsRow V.heap.size 176 3 (.slice s (P.length+1) c16) (P.length+1) (rC P vs++[.string y.key,(.slice r n p),.string y.out])) (j:(f.alloc (.cells #[.string y.key,.slice r n p,.string y.out] 176)).grownBy u (Value.slice a2 P.length c2).ownBlock) (i:Wx A u z) (hc:Cl z A 49 [.int .i64 W0,.slice (some ⟨g,0,none⟩) ts.length c,.slice s (P.length+1) c16]):
 LD V A W0 ts g c (P++[y]) s c16 (vs++[.slice r n p]) z:=by
 subst D;have hA:=h.cl.lt;have E:=h.na;have s12:=l.size;have s4:(f.alloc (.cells #[.string y.key,.slice r y.gs.length p,.string y.out] 176)).heap.size=f.heap.size+1:=O4;have s5:=j.size;have s6:=i.size;have x:∀k,k<f.heap.size->k≠A->(Value.slice a2 P.length c2).ownBlock≠some k->z.heap[k]?=f.heap[k]?:=λk m a b=>((i.block k a).trans (j.block k O0 (λe=>b e.symm))).trans (Lr _ _ k m);have B:∀k,k<V1.heap.size->k≠A->(Value.slice a2 P.length c2).ownBlock≠some k->z.heap[k]?=V1.heap[k]?:=λk m a b=>(x k O0 a b).trans (l.block k m);have w:∀k t,Oj V1 k t->t≠176->t≠49->z.heap[k]?=V1.heap[k]?:=λk t hT a b=>B k (Tm hT) (λe=>b (V9 hT (e▸E_ h.cl))) (λe=>a (V9 hT (N9 h.rc.row e)));have e1:(P++[y]).length=P.length+1:=O4;refine⟨by rw[e1];exact hc,?_,G7 h.tr (λq d=>w q 9 (N9 h.tr d) J6 J6),E,⟨i.os.trans (j.os.trans (l.os.trans h.bw.os)),i.tape.trans (j.tape.trans (l.tape.trans h.bw.tape)),i.output.trans (j.output.trans (l.output.trans h.bw.output)),by have:=h.bw.size;omega,λk m=>(B k O0 O0 (λe=>by have:=Y6 h.rc.row e;omega)).trans (h.bw.block k m)⟩⟩;rw[e1];refine IG h.rc (a_ (G7 o (λq d=>x q (Oe o d) (λe=>by have:=Y6 o d;omega) (λe=>by have:=Oe h.rc.row e;have:=Y6 o d;omega))) O0) (G7 v (λq d=>i.block q (λe=>?_))) (λq d=>w q 256 d J6 J6) (λq d=>Y6 o d);have C:=N9 v d;exact absurd (V9 C (e▸E_ (wY (h.below l) j))) J6
theorem NJ{rs:List R3}{x:R3}(h:b=true↔∃j,j<rs.length/\rs.getD j j_=x):b=true↔x∈rs:=by
 rw[h];constructor
 ·rintro⟨j,a,e⟩;simp only[List.getD,D9 a,Hg]at e;rw[<- e];exact ji a
 intro hm;obtain⟨j,a,e⟩:=Ce hm;refine⟨j,a,?_⟩;simp only[List.getD,D9 a,Hg];exact e
theorem aV{c:Int}(h:Zg s)(h2:bg m ls c t)(a:Q7 s.wd (Sl ls c t) (s.ts,true)=(T,false)):J_ s m ls c t=(st0,3):=by
 simp[J_,h,h2,a]
theorem ZX{c:Int}(h:Zg s)(h2:bg m ls c t)(d:Q7 s.wd (Sl ls c t) (s.ts,true)=(T,true))(b:yg s.rs (Wh s.wd m ls c t)=P)(a:300<T.length\/150<P.length):J_ s m ls c t=(st0,4):=by
 simp only[J_,h,h2,d,b,a,not_true_eq_false,if_false,if_true];simp
theorem YX{c:Int}(h:Zg s)(h2:bg m ls c t)(e:Q7 s.wd (Sl ls c t) (s.ts,true)=(T,true))(d:yg s.rs (Wh s.wd m ls c t)=P)(b:¬300<T.length)(a:¬150<P.length):J_ s m ls c t=(⟨s.wd,T,P⟩,0):=by
 simp[J_,h,h2,e,d,b,a]
theorem RJ(h:Zg s)(i:Nat):(s.rs.getD i j_).gs.length<=1000:=by
 by_cases a:i<s.rs.length
 ·exact Q8 (h.2.2.2 i a).1.2.2 J6
 simp[List.getD,Mc (Vw a),j_]
theorem vU(h:w.ownsRow b0 9 1 (.slice ta ts.length tc) ts.length (ts.map Value.string)):o8 w ta ts:=by
 rcases h.2 with⟨_,h0⟩|⟨g,cap,cur,hv,_⟩
 ·exact .inl (La.1 h0)
 injection hv with hv _ h3;subst hv h3;obtain⟨h1,_,_,b⟩:=eG h;exact .inr ⟨g,0,rfl,h1,λi a=>by rw[l7];exact b i a⟩
theorem Pz{ra:OA}{rc:Nat}(h:Bd w b0 s.ts s.rs (.slice ta s.ts.length tc) (.slice ra s.rs.length rc)):Ig w ta ra s:=by
 obtain⟨h1,vs,h2⟩:=h;exact⟨vU h1,aI h2⟩
theorem cl4(w:World)(a b c d:List Value)(p q r s:TypeId):∃U,U=(((w.alloc (.cells a.toArray p)).alloc (.cells b.toArray q)).alloc (.cells c.toArray r)).alloc (.cells d.toArray s)/\w.heap.size+4=U.heap.size/\Hid (∀u,Bw U u->(Cl u w.heap.size p a/\Cl u (w.heap.size+1) q b/\Cl u (w.heap.size+2) r c/\Cl u (w.heap.size+3) s d)/\Bw w u):=by
 have i:(w.alloc (.cells a.toArray p)).heap.size=w.heap.size+1:=O4;have h:((w.alloc (.cells a.toArray p)).alloc (.cells b.toArray q)).heap.size=w.heap.size+2:=O4;have g:(((w.alloc (.cells a.toArray p)).alloc (.cells b.toArray q)).alloc (.cells c.toArray r)).heap.size=w.heap.size+3:=O4;have h2:=U3 (w.alloc (.cells a.toArray p)) b q;have f:=U3 ((w.alloc (.cells a.toArray p)).alloc (.cells b.toArray q)) c r;have e:=U3 (((w.alloc (.cells a.toArray p)).alloc (.cells b.toArray q)).alloc (.cells c.toArray r)) d s;rw[i]at h2;rw[h]at f;rw[g]at e;exact⟨_,rfl,O4,λu k=>⟨⟨(G8 (G8 (G8 (U3 w a p) _) _) _).below k X7,(G8 (G8 h2 _) _).below k O4,(G8 f _).below k O4,e.below k O4⟩,P5 (((P6.alloc O4 _).alloc X7 _).alloc X7 _) k⟩⟩
theorem xH{y:World}(xs:List Value)(t:TypeId)(h:Bw V y):∃z,y.alloc (.cells xs.toArray t)=z/\Hid (Cl z y.heap.size t xs)/\V.heap.size<=y.heap.size/\Bw y z:=⟨_,rfl,U3 y xs t,h.size,P6⟩
theorem kE{Q:Ending->World->Prop}{c:Array Value}{B:Nat}{x y v:Value}{n:Int}(e:c.getD 8 undef=.pointer (some ⟨B,0,none⟩))(d:c.getD 9 undef=.int .i64 n)(C:Cl z B 49 [x,y,v])(h:Q (.returned (.tuple #[.agg #[x,y,v],.int .i64 n])) z):bodyPost prog f156 Q .ret ⟨c,[]⟩ z:=by
 obtain⟨e0,e1,f⟩:=cZ C;have a:c[8]?.getD undef=.pointer (some ⟨B,0,none⟩):=by simpa using e
 have b:c[9]?.getD undef=.int .i64 n:=by simpa using d
 exact o7 (by simp[results,results156,go_sem,a,b,e0,e1,f]) rfl h
theorem ky{b:Nat}{U:World}(H:LD U A W T g c P a2 c2 vs u)(a:Wx (b+3) u z)(hb:b+4=U.heap.size):Bd z b T P (.slice (some ⟨g,0,none⟩) T.length c) (.slice a2 P.length c2):=by
 have h:=H.rc.keep (W':=z) (λq t _ _ d=>a.block q O0);exact⟨a_ (G7 H.tr (λq d=>a.block q (by have:=Y6 H.tr d;omega))) O0,_,h.len,a_ h.row O0,λi f=>by
  obtain⟨k,c3,e,j⟩:=h.gl i f;exact⟨k,c3,e,a_ j O0⟩,h.apart⟩
theorem c156(s:St)(m:M3)(ls:List L4)(c:Int)(t:BY)(b0:Nat)(ta ra la:OA)(tc rc lc:Nat)(w:World)(hs:s.le 1048576)(hm:m.le 1048576)(hl:ls.length<=1048576)(hls:∀i,(ls.getD i l_).le 1048576)(ht:t.size<=1048576)(hst:Bd w b0 s.ts s.rs (.slice ta s.ts.length tc) (.slice ra s.rs.length rc))(hla:X6 w la ls):
 Calls prog 156 #[.agg #[.int .i64 s.wd,.slice ta s.ts.length tc,.slice ra s.rs.length rc],.agg #[.string m.nm,.string m.tl,.string m.ar],.slice la ls.length lc,.agg #[.int .i64 c,.string t]] w λe w'=>Nu s m ls c t w.heap.size w' e/\Bw w w':=by
 obtain⟨Z,hU,s0,r⟩:=cl4 w [.int .i64 s.wd,.slice ta s.ts.length tc,.slice ra s.rs.length rc] [.string m.nm,.string m.tl,.string m.ar] [.int .i64 c,.string t] [.int .i64 0,.slice none 0 0,.slice none 0 0] 49 68 71 49;have F:=U0 (J4 Z.heap.size Z);have HST:=U0 hst;have HL:=U0 hla;have S0:=U0 s0;clear hst hla s0
 go_in
 go_upto_region 1 with fail
 rw[<- hU];clear hU
 go_wp2_with(refine O8 (r.out _ F.out).1.1 rfl 49 _ rfl (j:=0) [.int .i64 s.wd,.slice ta s.ts.length tc,.slice ra s.rs.length rc] rfl rfl underlying49 rfl Y0 ?_)
 refine(c212 ta ra tc rc s _ hs ((Pz HST.out).below (r.out _ F.out).2)).mono ?_;rintro e w1⟨⟨b,rfl,l⟩,k1⟩
 replace F:=U0 (P5 F.out k1)
 cases b
 ·have HK:=U0 (UQ (m:=m) (ls:=ls) (c:=c) (t:=t) (λh=>absurd (l.2 h) J6))
  go_wp2_with(refine N8 rfl 49 _ _ rfl (j:=0) rfl rfl (r.out _ F.out).1.2.2.2 Y8 (A8 rfl) Y0 ?_;intro z U H)
  exact kE rfl rfl U ⟨Gm HK.out,(r.out _ F.out).2.trans (H.below O0)⟩
 have HOK:=U0 (l.1 rfl);clear l k1
 go_wp2_with(first|(refine O8 (r.out _ F.out).1.2.1 rfl 68 _ rfl (j:=0) [.string m.nm,.string m.tl,.string m.ar] rfl rfl underlying68 rfl Y0 ?_)|(refine O8 (r.out _ F.out).1.2.2.1 rfl 71 _ rfl (j:=0) [.int .i64 c,.string t] rfl rfl underlying71 rfl Y0 ?_))
 refine(c208 m ls c t la lc _ hm hl hls ht (Z4 HL.out (r.out _ F.out).2)).mono ?_;rintro e w2⟨⟨b,rfl,l⟩,k2⟩
 replace F:=U0 (P5 F.out k2)
 cases b
 ·have HK:=U0 (aN (s:=s) HOK.out (show ¬bg m ls c t from λh=>absurd (l.2 h) J6))
  go_wp2_with(refine N8 rfl 49 _ _ rfl (j:=0) rfl rfl (r.out _ F.out).1.2.2.2 Y8 (A8 rfl) Y0 ?_;intro z U H)
  exact kE rfl rfl U ⟨Gm HK.out,(r.out _ F.out).2.trans (H.below O0)⟩
 have HRK:=U0 (l.1 rfl);clear l k2
 go_wp2_with(first|(refine O8 (r.out _ F.out).1.1 rfl 49 _ rfl (j:=0) [.int .i64 s.wd,.slice ta s.ts.length tc,.slice ra s.rs.length rc] rfl rfl underlying49 rfl Y0 ?_)|(refine(c213 s b0 (.slice ta s.ts.length tc) (.slice ra s.rs.length rc) _ (Q8 HOK.out.2.1.1 J6) (Q8 HOK.out.2.2.1 J6) (RJ HOK.out) (Gw HST.out (r.out _ F.out).2)).mono ?_;rintro e w3⟨⟨g3,c3,X,V,rfl,a6a,vs,a5x⟩,k3⟩))
 have s2:=F.out.size
 replace F:=P5 F.out k3
 have s3:=F.size;obtain⟨y,hy,CY,_,kA⟩:=xH [.int .i64 s.wd,.slice (some ⟨g3,0,none⟩) s.ts.length c3,.slice X s.rs.length V] 49 F;have n:Hid (LD Z w3.heap.size s.wd s.ts g3 c3 s.rs X V vs y):=U0 ⟨CY.out,⟨a5x.len,a_ (own_below a5x.row kA) s2,λi hi=>by
  obtain⟨a,c,e,h⟩:=a5x.gl i hi;exact⟨a,c,e,a_ (own_below h kA) s2⟩,a5x.apart⟩,a_ (own_below a6a kA) s2,s3,P5 F kA⟩
 rw[hy];clear a6a a5x hy CY kA F k3;generalize w3.heap.size=A at*;go_loopw[11,12] (λf i wr=>∃(k:Nat)(T:List ByteArray)(b:Bool)(gg cc:Nat),k<=ls.length/\i=.int .i64 k/\f=.bool b/\Hid (Q7 s.wd (pK ls k) (s.ts,true)=(T,b))/\Hid (LD Z A s.wd T gg cc s.rs X V vs wr)) (λ_ i _=>ls.length-(Go.RowKit.intOf i).toNat);exact⟨0,s.ts,true,g3,c3,I4 _,rfl,rfl,by show _=_;simp[pK,B_,Q7],n⟩;clear n;obtain⟨k,T,b,gg,cc,hk,rfl,rfl,HPA,n⟩:=hrel;have HP:Hid (∀O:BY,O.size<=1048700->∀v,Bw wr v->Calls prog 214 #[.agg #[.int .i64 s.wd,.slice (some ⟨gg,0,none⟩) T.length cc,.slice X s.rs.length V],.string O] v λe w'=>(∃N Q,e=.returned (.tuple #[.agg #[.int .i64 s.wd,.slice (some ⟨N,0,none⟩) (Fb s.wd O T).1.length Q,.slice X s.rs.length V],.bool (Fb s.wd O T).2])/\w'.ownsRow Z.heap.size 9 1 (.slice (some ⟨N,0,none⟩) (Fb s.wd O T).1.length Q) (Fb s.wd O T).1.length ((Fb s.wd O T).1.map Value.string))/\Bw v w'):=λO hf v hv=>a4z s.wd T O Z.heap.size gg cc s.rs.length V X v (by have h:=Fz (a:=pK ls k) (b:=true) (Wp HOK.out);rw[HPA.out]at h;exact h) (by
  have h:=ZH s.wd (pK ls k) (s.ts,true);rw[HPA.out]at h;have:=XW ls k;have:=HOK.out.2.1.1;have:=HRK.out.2.1.1;simp only[]at h;omega) (MF HPA.out (λi=>Q8 (hs.1.2 i) O0) (BN hls k)) hf (own_below n.out.tr hv) (Q8 n.out.bw.size hv.size)
 by_cases hlt:k<ls.length
 ·rcases Z4 HL.out (r.out _ n.out.bw).2 with he|⟨lb,lq,a6I,hlb,hcell⟩
  ·rw[he]at hlt;exact absurd hlt (U7 _)
  subst a6I;obtain⟨l0,l1,l2,l3⟩:=hcell k hlt;have htx:=(hls k).2;have HFN:=(ZP hlt);generalize ls.getD k l_=x at*;clear hcell;cases hh:x.has;rotate_left
  ·rw[hh]at l0 HFN
   replace HFN:Hid (Q7 s.wd (pK ls (k+1)) (s.ts,true)=(T,b)):=by show _=_;rw[HFN,D8 rfl,Gv];exact HPA.out
   clear hh;go_wp2;go_roundw;exact⟨k+1,T,b,gg,cc,O0,by go_num,rfl,HFN,n⟩;exact P9
  rw[hh]at l0 HFN;have h25:=HP.out _ (show(BB x.cd x.tx).size<=1048700 by have:=Gp x.cd x.tx;omega);generalize hfm:BB x.cd x.tx=O at*;obtain⟨J,b',hp⟩:∃J b',Fb s.wd O T=(J,b'):=⟨_,_,rfl⟩;simp only[hp]at h25
  replace HFN:Hid (Q7 s.wd (pK ls (k+1)) (s.ts,true)=(J,b&&b')):=by show _=_;rw[HFN,Y7 J6,ax,HPA.out];simp only[];rw[hp]
  clear hh hp HP HPA
  go_upto_region 11 with fail
  go_cut[13,14] from 44 to 54 (λvp vb W=>∃B N Q:Nat,vp=.pointer (some ⟨B,0,none⟩)/\vb=.bool b'/\Hid (Cl W B 49 [.int .i64 s.wd,.slice (some ⟨N,0,none⟩) J.length Q,.slice X s.rs.length V])/\Hid (W.ownsRow Z.heap.size 9 1 (.slice (some ⟨N,0,none⟩) J.length Q) J.length (J.map Value.string))/\Hid (Bw wr W))
  case first=>
   have L:Hid (∀u,Bw wr u->u.cell? ⟨A,0,none⟩=some (.int .i64 s.wd)/\u.cell? ⟨A,1,none⟩=some (.slice (some ⟨gg,0,none⟩) T.length cc)/\u.cell? ⟨A,2,none⟩=some (.slice X s.rs.length V)/\u.cell? ⟨lb,lq+k*4+2,none⟩=some (.int .i64 x.cd)/\u.cell? ⟨lb,lq+k*4+3,none⟩=some (.string x.tx)):=λu k=>have C:=n.out.cl.below k n.out.cl.lt;⟨C.cell 0,C.cell 1,C.cell 2,(k.cell (by exact hlb)).trans l2,(k.cell (by exact hlb)).trans l3⟩
   have d:=(J4 wr.heap.size wr).drew;refine FO L d Y0 λhH=>?_;generalize wr.drew=y at*
   iterate 6 refine sq ?_
   refine wpAnyH_ready (rs:=[6,11]) Y0 O4 ?_;refine AllReadyH.cons (o:=⟨some 51,.call ⟨.value (.func 215),#[.tmp 50],#[71]⟩,9,_,_,none⟩) rfl (λK g=>?_) (AllReadyH.cons (o:=⟨some 13,.alloc 49,0,_,_,none⟩) rfl (λK g=>?_) AllReadyH.nil);rotate_left
   focus
    go_simp;obtain⟨z,e,I,hB,p⟩:=xH [.int .i64 0,.slice none 0 0,.slice none 0 0] 49 d;rw[e];clear e
    try replace R:=U0 (own_below R.out p)
    replace d:=P5 d p
    refine X8 g (L.out _ d) λhH=>?_;clear g K p;refine rq 6 λK g=>?_
   all_goals
    go_simp;refine(TY x.cd x.tx O _ hfm O0).mono ?_;rintro e z⟨rfl,l⟩
    try replace I:=U0 (I.out.below l I.out.lt)
    replace d:=P5 d l
    clear l;go_simp;refine X8 g (L.out _ d) λhH=>?_;clear g K
   refine rq 7 λK g=>?_;rotate_left;refine wpAnyH_ready (rs:=[7,11]) Y0 O4 ?_;refine AllReadyH.cons (o:=⟨some 52,.call ⟨.value (.func 214),#[.tmp 45,.tmp 51],#[49,9]⟩,338,_,_,none⟩) rfl (λK g=>?_) (AllReadyH.cons (o:=⟨some 13,.alloc 49,0,_,_,none⟩) rfl (λK g=>?_) AllReadyH.nil);rotate_left
   focus
    go_simp;obtain⟨z,e,I,hB,p⟩:=xH [.int .i64 0,.slice none 0 0,.slice none 0 0] 49 d;rw[e];clear e
    try replace R:=U0 (own_below R.out p)
    replace d:=P5 d p
    refine X8 g (L.out _ d) λhH=>?_;clear g K p;refine rq 7 λK g=>?_
   all_goals
    go_simp;refine(h25 _ d).mono ?_;rintro e z⟨⟨N,Q,rfl,hr⟩,l⟩;have R:=U0 hr;clear hr
    try replace I:=U0 (I.out.below l I.out.lt)
    replace d:=P5 d l
    clear l;go_simp;refine X8 g (L.out _ d) λhH=>?_;clear g K;refine U8 8 ?_;refine U8 9 ?_;refine U8 10 ?_
   rotate_left 2
   focus
    refine rq 11 λK g=>?_;go_simp;obtain⟨z,e,I,hB,p⟩:=xH [.int .i64 0,.slice none 0 0,.slice none 0 0] 49 d;rw[e];clear e
    try replace R:=U0 (own_below R.out p)
    replace d:=P5 d p
    refine X8 g (L.out _ d) λhH=>?_;clear g K p
   all_goals
    refine rq 12 λK g=>?_;refine Va rfl 49 _ _ rfl (j:=0) rfl rfl I.out Y8 (A8 rfl) Y0 ?_;intro E cz H;have RE:=G7 R.out (λq Y=>H.block q (λe=>absurd (V9 (N9 R.out Y) (e▸E_ I.out)) J6))
    replace d:=d.trans (H.below hB)
    refine X8 g (L.out _ d) λhH=>?_;clear g K;refine sq ?_;refine wdn ?_
    go_wp2_with fail
    go_meet
    exact⟨_,N,Q,rfl,rfl,cz,RE,d⟩
  obtain⟨B,N,Q,rfl,rfl,HX,HY,HZ⟩:=hcut;have HL2:=U0 (n.out.below HZ.out)
  go_upto_region 13 with(first|(refine Ub HX.out rfl 49 _ rfl rfl underlying49 rfl Y0 ?_)|(refine N8 rfl 49 _ _ rfl (j:=0) rfl rfl HL2.out.cl Y8 (A8 rfl) Y0 ?_;intro z U H))
  replace n:=U0 (zT HL2.out HY.out H U)
  cases b
  all_goals
   go_wp2;go_roundw;exact⟨k+1,J,_,N,Q,O0,by go_num,rfl,HFN,n⟩;exact P9
 obtain rfl:k=ls.length:=O0;have hfs:(BB c t).size<=1048700:=by have:=Gp c t;omega
 have h25:=HP.out _ hfs;obtain⟨O,hfm⟩:∃O,BB c t=O:=⟨_,rfl⟩;obtain⟨J,b',hp⟩:∃J b',Fb s.wd O T=(J,b'):=⟨_,_,rfl⟩;rw[hfm]at h25;simp only[hp]at h25;have HNX:Hid (Q7 s.wd (Sl ls c t) (s.ts,true)=(J,b&&b')):=by show _=_;rw[a1D,hfm,ax,HPA.out];simp only[];rw[hp]
 clear hp HP HPA
 go_upto_region 14 with fail
 go_cut[15,16] from 60 to 66 (λvp vb W=>∃B N Q:Nat,vp=.pointer (some ⟨B,0,none⟩)/\vb=.bool b'/\Hid (Cl W B 49 [.int .i64 s.wd,.slice (some ⟨N,0,none⟩) J.length Q,.slice X s.rs.length V])/\Hid (W.ownsRow Z.heap.size 9 1 (.slice (some ⟨N,0,none⟩) J.length Q) J.length (J.map Value.string))/\Hid (Bw wr W))
 case first=>
  have L:Hid (∀u,Bw wr u->u.cell? ⟨A,0,none⟩=some (.int .i64 s.wd)/\u.cell? ⟨A,1,none⟩=some (.slice (some ⟨gg,0,none⟩) T.length cc)/\u.cell? ⟨A,2,none⟩=some (.slice X s.rs.length V)/\u.cell? ⟨w.heap.size+2,0,none⟩=some (.int .i64 c)/\u.cell? ⟨w.heap.size+2,1,none⟩=some (.string t)):=λu k=>have C:=n.out.cl.below k n.out.cl.lt;⟨C.cell 0,C.cell 1,C.cell 2,have D:=(r.out _ (P5 n.out.bw k)).1.2.2.1;⟨D.cell 0,D.cell 1⟩⟩
  have d:=(J4 wr.heap.size wr).drew;refine FO L d Y0 λhH=>?_;generalize wr.drew=y at*
  iterate 2 refine sq ?_
  refine wpAnyH_ready (rs:=[2,7]) Y0 O4 ?_;refine AllReadyH.cons (o:=⟨some 63,.call ⟨.value (.func 215),#[.tmp 62],#[71]⟩,9,_,_,none⟩) rfl (λK g=>?_) (AllReadyH.cons (o:=⟨some 15,.alloc 49,0,_,_,none⟩) rfl (λK g=>?_) AllReadyH.nil);rotate_left
  focus
   go_simp;obtain⟨z,e,I,hB,p⟩:=xH [.int .i64 0,.slice none 0 0,.slice none 0 0] 49 d;rw[e];clear e
   try replace R:=U0 (own_below R.out p)
   replace d:=P5 d p
   refine X8 g (L.out _ d) λhH=>?_;clear g K p;refine rq 2 λK g=>?_
  all_goals
   go_simp;refine(TY c t O _ hfm O0).mono ?_;rintro e z⟨rfl,l⟩
   try replace I:=U0 (I.out.below l I.out.lt)
   replace d:=P5 d l
   clear l;go_simp;refine X8 g (L.out _ d) λhH=>?_;clear g K
  refine rq 3 λK g=>?_;rotate_left;refine wpAnyH_ready (rs:=[3,7]) Y0 O4 ?_;refine AllReadyH.cons (o:=⟨some 64,.call ⟨.value (.func 214),#[.tmp 61,.tmp 63],#[49,9]⟩,338,_,_,none⟩) rfl (λK g=>?_) (AllReadyH.cons (o:=⟨some 15,.alloc 49,0,_,_,none⟩) rfl (λK g=>?_) AllReadyH.nil);rotate_left
  focus
   go_simp;obtain⟨z,e,I,hB,p⟩:=xH [.int .i64 0,.slice none 0 0,.slice none 0 0] 49 d;rw[e];clear e
   try replace R:=U0 (own_below R.out p)
   replace d:=P5 d p
   refine X8 g (L.out _ d) λhH=>?_;clear g K p;refine rq 3 λK g=>?_
  all_goals
   go_simp;refine(h25 _ d).mono ?_;rintro e z⟨⟨N,Q,rfl,hr⟩,l⟩;have R:=U0 hr;clear hr
   try replace I:=U0 (I.out.below l I.out.lt)
   replace d:=P5 d l
   clear l;go_simp;refine X8 g (L.out _ d) λhH=>?_;clear g K;refine U8 4 ?_;refine U8 5 ?_;refine U8 6 ?_
  rotate_left 2
  focus
   refine rq 7 λK g=>?_;go_simp;obtain⟨z,e,I,hB,p⟩:=xH [.int .i64 0,.slice none 0 0,.slice none 0 0] 49 d;rw[e];clear e
   try replace R:=U0 (own_below R.out p)
   replace d:=P5 d p
   refine X8 g (L.out _ d) λhH=>?_;clear g K p
  all_goals
   refine rq 8 λK g=>?_;refine Va rfl 49 _ _ rfl (j:=0) rfl rfl I.out Y8 (A8 rfl) Y0 ?_;intro E cz H;have RE:=G7 R.out (λq Y=>H.block q (λe=>absurd (V9 (N9 R.out Y) (e▸E_ I.out)) J6))
   replace d:=d.trans (H.below hB)
   refine X8 g (L.out _ d) λhH=>?_;clear g K;refine sq ?_;refine wdn ?_
   go_wp2_with fail
   go_meet
   exact⟨_,N,Q,rfl,rfl,cz,RE,d⟩
 obtain⟨B,N,Q,rfl,rfl,HX,HY,HZ⟩:=hcut;have HL2:=U0 (n.out.below HZ.out)
 go_upto_region 16 with(first|(refine Ub HX.out rfl 49 _ rfl rfl underlying49 rfl Y0 ?_)|(refine N8 rfl 49 _ _ rfl (j:=0) rfl rfl HL2.out.cl Y8 (A8 rfl) Y0 ?_;intro z U H))
 replace n:=U0 (zT HL2.out HY.out H U)
 try simp only[qq]
 go_cut[11] from 68 to 71 (λv W=>v=.bool (b&&b')/\W=z)
 case first=>
  cases b
  all_goals
   go_wp2_with fail
   go_meet
   exact⟨rfl,rfl⟩
 obtain⟨rfl,hzz⟩:=hcut;subst hzz;generalize (b&&b')=bb at*;clear U H HL2 HX HY HZ
 go_wp2_with(first|(refine O8 (r.out _ n.out.bw).1.2.1 rfl 68 _ rfl (j:=0) [.string m.nm,.string m.tl,.string m.ar] rfl rfl underlying68 rfl Y0 ?_)|(refine O8 (r.out _ n.out.bw).1.2.2.1 rfl 71 _ rfl (j:=0) [.int .i64 c,.string t] rfl rfl underlying71 rfl Y0 ?_)|(refine G5 (r.out _ n.out.bw).1.1 rfl 3 _ rfl rfl rfl Y0 ?_)|(refine(a4P m ls c t s.wd la lc _ ⟨Q8 hm.1 O0,Q8 hm.2.1 O0,Q8 hm.2.2 O0⟩ O0 hfs hl (λi=>⟨Q8 (hls i).2 O0,NK (hls i).2⟩) (Z4 HL.out (r.out _ n.out.bw).2)).mono ?_;rintro e w5⟨⟨v5,rfl,hv5⟩,hb5⟩;obtain⟨a5,a5h,rfl⟩:=Z9 hv5))
 rw[kZ]at hv5;have HV5:=U0 hv5;clear hv5;obtain⟨x0,hx0⟩:∃x:R3,x=Wh s.wd m ls c t:=⟨_,rfl⟩;generalize hsm:G6 (Y2 (S9 c t.data.toList)) s.wd=sm at*;have hx1:=U0 hx0.symm
 replace hx0:Hid (x0=⟨Fe m,ls.map (Ux s.wd),sm⟩):=U0 (by rw[hx0,<- hsm];rfl)
 clear hsm;obtain⟨E6,e6,BR6,_,a5y⟩:=xH [.string (Fe m),.slice a5 ls.length a5h,.string sm] 176 (J4 w5.heap.size w5);rw[e6];clear e6;have L6:=U0 ((n.out.below hb5).below a5y);have HGL:=U0 (OJ (gs:=ls.map (Ux s.wd)) (c:=a5h) (by rw[Je];exact HV5.out));go_loopw[18,19] (λth i wr=>∃(k:Nat)(b2:Bool),k<=s.rs.length/\th=.bool b2/\i=.int .i64 k/\Hid (b2=true↔∃j,j<k/\s.rs.getD j j_=x0)/\Below E6.heap.size E6 wr) (λ_ i _=>s.rs.length-(Go.RowKit.intOf i).toNat);exact⟨0,false,I4 _,rfl,rfl,by show _↔_;simp,J4 _ _⟩;obtain⟨k,b2,hk,rfl,rfl,Y,hbr⟩:=hrel;have HLr:=U0 (L6.out.below hbr);have hsl:=hs.2.1;have o2:wr.cell? ⟨A,2,none⟩=some (.slice X s.rs.length V):=HLr.out.cl.cell 2;by_cases hlt:k<s.rs.length
 ·cases b2
  rotate_left
  ·have HQ:Hid (∃j,j<k+1/\s.rs.getD j j_=x0):=by obtain⟨j,hj,e⟩:=Y.out.1 rfl;exact⟨j,O0,e⟩
   clear Y
   go_wp2_with fail
   refine wp_region_held_drew (S:=(λ_=>True)) Y0 ?_ λhHeld=>?_
   · ((try dsimp only);all_goals trivial)
   iterate 11 refine sq ?_
   refine wdn ?_;go_wp2;go_roundw;exact⟨k+1,true,O0,rfl,by go_num,⟨λ_=>HQ.out,λ_=>rfl⟩,hbr.drew⟩;exact P9
  rcases aI HLr.out.rc with he|⟨rb,ro,hra,hrb,hcell⟩
  ·rw[he]at hlt;exact absurd hlt (U7 _)
  subst hra;obtain⟨ai,ci,g0,g1,g2,g3⟩:=hcell k hlt;clear hcell;have h28:=c91 (s.rs.getD k j_) ⟨Fe m,ls.map (Ux s.wd),sm⟩ ai a5 ci a5h wr.drew (hs.2.2 k).2.1 (by simpa using hl) (V8 g3 (J4 _ _).drew) (V8 HGL.out ((P5 a5y hbr).trans ((J4 wr.heap.size wr).drew.mono (P5 a5y hbr).size)));simp only[Je]at h28;rw[<- hx0.out]at h28;have HQ:Hid (∀b:Bool,(b=true↔s.rs.getD k j_=x0)->(b=true↔∃j,j<k+1/\s.rs.getD j j_=x0)):=λb l=>by
   rw[l];constructor
   ·intro e;exact⟨k,O0,e⟩
   rintro⟨j,hj,e⟩;rcases P7 j k with h|h
   ·exact absurd (Y.out.2 ⟨j,h,e⟩) J6
   obtain rfl:j=k:=O0;exact e
  generalize s.rs.getD k j_=x at*;clear Y;have L:Hid (∀u,Bw wr u->u.cell? ⟨A,2,none⟩=some (.slice (some ⟨rb,ro,none⟩) s.rs.length V)/\u.cell? ⟨rb,ro+k*3,none⟩=some (.string x.key)/\u.cell? ⟨rb,ro+k*3+1,none⟩=some (.slice ai x.gs.length ci)/\u.cell? ⟨rb,ro+k*3+2,none⟩=some (.string x.out)/\u.cell? ⟨w5.heap.size,0,none⟩=some (.string (Fe m))/\u.cell? ⟨w5.heap.size,1,none⟩=some (.slice a5 ls.length a5h)/\u.cell? ⟨w5.heap.size,2,none⟩=some (.string sm)):=λu h=>have B:=BR6.out.below (P5 hbr h) BR6.out.lt;⟨(h.cell (by exact HLr.out.cl.lt)).trans o2,(h.cell (by exact hrb)).trans g0,(h.cell (by exact hrb)).trans g1,(h.cell (by exact hrb)).trans g2,B.cell 0,B.cell 1,B.cell 2⟩
  have k0:=(J4 wr.heap.size wr).drew
  go_wp2_with fail
  refine FO L k0 Y0 λhH=>?_
  iterate 8 refine sq ?_
  refine rq 8 λK g=>?_;go_simp;refine h28.mono ?_;rintro e w7⟨⟨bo,rfl,hbo⟩,hb7⟩
  replace k0:=P5 k0 hb7
  go_wp2_with fail
  refine X8 g (L.out _ k0) λhH=>?_;clear g K
  iterate 2 refine sq ?_
  refine wdn ?_;go_wp2;go_roundw;exact⟨k+1,bo,O0,rfl,by go_num,HQ.out bo hbo,P5 hbr k0⟩;exact P9
 obtain rfl:k=s.rs.length:=O0;have hmem:=U0 (NJ Y.out);clear Y
 go_upto_if 96 with fail
 go_cut[] from 97 to 102 (λW=>∃(P:List R3)(a6:OA)(c16:Nat)(vs:List Value),Hid (yg s.rs x0=P)/\Hid (LD Z A s.wd J N Q P a6 c16 vs W))
 case first=>
  cases b2
  rotate_left
  ·go_wp2_with fail
   go_meet
   exact⟨_,_,_,_,by show yg _ _=_;unfold yg;rw[if_pos (by simpa using hmem.out)],HLr⟩
  go_wp2_with(first|(refine Ub (BR6.out.below hbr BR6.out.lt) rfl 176 _ rfl rfl underlying176 rfl Y0 ?_)|(refine Nr rfl _ _ 47 rfl Z.heap.size 176 3 underlying47 (Um Y0) J6 _ _ _ rfl (own_below HLr.out.rc.row P6) _ 1 [.string (Fe m),.slice a5 ls.length a5h,.string sm] rfl (.inr ⟨⟨wr.heap.size,0,none⟩,1,rfl,rfl,jm (U3 wr [.string (Fe m),.slice a5 ls.length a5h,.string sm] 176)⟩) (A8 rfl) (by have:=hs.2.1;omega) (by have:=HLr.out.bw.size;simp;omega) ?_;intro v6 w6 hown hg _;obtain⟨a6,c16,rfl⟩:=Z9 hown)|(refine LC rfl _ _ _ rfl rfl rfl Y0 (wY HLr.out hg) O4 ?_;intro z6 C6 o6))
  go_meet
  exact⟨_,_,_,_,by show yg _ _=_;unfold yg;rw[if_neg (λh=>absurd (hmem.out.2 h) J6),hx0.out],a0H (y:=⟨Fe m,ls.map (Ux s.wd),sm⟩) n.out (List.length_map _) (P5 (P5 hb5 a5y) hbr) (own_below HV5.out (P5 a5y hbr)) hown hg o6 C6.out⟩
 obtain⟨P,a6,c16,vs6,HPR,HLe⟩:=hcut;clear n HLr L6 HV5 HGL BR6 hmem;cases bb
 ·have HK:=U0 (aV HOK.out HRK.out HNX.out)
  go_wp2_with(refine N8 rfl 49 _ _ rfl (j:=0) rfl rfl (r.out _ HLe.out.bw).1.2.2.2 Y8 (A8 rfl) Y0 ?_;intro z U H)
  exact kE rfl rfl U ⟨Gm HK.out,(r.out _ HLe.out.bw).2.trans (H.below O0)⟩
 have p1:wc.cell? ⟨A,1,none⟩=some (.slice (some ⟨N,0,none⟩) J.length Q):=HLe.out.cl.cell 1;have p2:wc.cell? ⟨A,2,none⟩=some (.slice a6 P.length c16):=HLe.out.cl.cell 2;by_cases h3:(300:Int)<J.length<;>by_cases h1:(150:Int)<P.length
 all_goals go_wp2_with(first|(refine N8 rfl 49 _ _ rfl (j:=0) rfl rfl (r.out _ HLe.out.bw).1.2.2.2 Y8 (A8 rfl) Y0 ?_;intro z U H)|(refine Ub HLe.out.cl rfl 49 _ rfl rfl underlying49 rfl Y0 ?_)|(refine N8 rfl 49 _ _ rfl (j:=0) rfl rfl (r.out _ HLe.out.bw).1.2.2.2 Y8 (A8 rfl) Y0 ?_;intro z U H))
 rotate_left 3;exact kE rfl rfl U ⟨wM (YX HOK.out HRK.out HNX.out (hx1.out▸HPR.out) O0 O0) (ky HLe.out H S0.out),(r.out _ HLe.out.bw).2.trans (H.below O0)⟩
 all_goals exact kE rfl rfl U ⟨Gm (ZX HOK.out HRK.out HNX.out (hx1.out▸HPR.out) O0),(r.out _ HLe.out.bw).2.trans (H.below O0)⟩
