import Derived.Test.YtchjpjmcnhjbcaaGreatDoorMF
import Derived.Test.YtchjpjmcnhjbcaaGreatDoorS1
import Derived.Test.YtchjpjmcnhjbcaaGreatDoorvK
set_option linter.unusedVariables false
set_option linter.unusedSimpArgs false
set_option maxHeartbeats 8000000
set_option maxRecDepth 100000
namespace Go.Proofs.YtchjpjmcnhjbcaaGreatDoor
open Proofs.Tryz Go.RowKit Go.Maps
variable {s:St} {m:M3} {ls:List L4} {W c:Int} {t:BY} {T ts:LB} {b:Bool} {A b0 c2 g tc:Nat} {P:List R3} {a2 ta:OA} {vs:List Value} {U u w:World}
theorem YL (h:Xg s) (h2:¬ Zf m ls c t):F_ s m ls c t=(st0,2):=by
 simp [F_,h,h2]
theorem kZ (W:Int) (ls:List L4):sF W ls=gC (ls.map (Vm W)):=by
 unfold sF gC;rw [List.flatMap_map];rfl
theorem Vs {fs:LB} (h:Y7 W fs (ts,true)=(T,b)) (h1:∀ i,(ts.getD i ByteArray.empty).size<=1048700) (h2:∀ x∈fs,x.size<=1048700):∀ i,(T.getD i ByteArray.empty).size<=1048700:=fun i=>by
 rcases Q7 i T.length with a | a
 · have hm:=zu a;have e:T=(Y7 W fs (ts,true)).1:=by rw [h]
   rw [e] at hm;rcases iy fs _ hm with hx | hx
   · rw [e];exact h2 _ hx
   · obtain ⟨j,c,d⟩:=Zd hx;have:=h1 j;simp only [List.getD,Z8 c,qf] at this;rw [e,<- d];exact this
 · have:T.getD i ByteArray.empty=ByteArray.empty:=by simp [List.getD,Yb a]
   rw [this];exact J4 _
theorem JB (h:∀ i,(ls.getD i E_).le 1048576) (k:Nat):∀ x∈oC ls k,x.size<=1048700:=by
 have hm:∀ l:List L4,(∀ y∈l,y.tx.size<=1048576)->∀ x∈(n_ l).map (fun r=>XA r.1 r.2),x.size<=1048700:=by
  intro l
  induction l with
  | nil=>intro _ x hx;simp [n_] at hx
  | cons y r ih=>
   intro hl x hx;unfold n_ at hx;split at hx
   · exact ih (fun z a=>hl z (Rf _ a)) x hx
   · rw [Hq] at hx;rcases Jd.1 hx with rfl | hx
     · have:=Zo y.cd y.tx;have:=hl y Zp;simp only [];omega
     · exact ih (fun z a=>hl z (Rf _ a)) x hx
 refine hm _ fun y b=>?_;obtain ⟨j,c,e⟩:=Zd (Rx b);have:=(h j).2;simp only [List.getD,Z8 c,qf] at this;rw [<- e];exact this
theorem nY {V V1 i a:World} {N:Nat} {W0:Int} {c:Nat} {o f:OA} {m d:Nat} {y:R3} (h:LC V N A W0 ts g c P a2 c2 vs V1) {n:Nat} (I:y.gs.length=n) (l:Bw V1 i) (r:i.ownsRow V1.heap.size 205 3 (.slice o n m) n (gC y.gs))
 (x:a.ownsRow N 145 3 (.slice f (P.length+1) d) (P.length+1) (rC P vs++[.string y.key,(.slice o n m),.string y.out])) (j:(i.alloc (.cells #[.string y.key,.slice o n m,.string y.out] 145)).grownBy a (Value.slice a2 P.length c2).ownBlock):
 LC V N A W0 ts g c (P++[y]) f d (vs++[.slice o n m]) (a.setCell ⟨A,2,none⟩ (.slice f (P.length+1) d)):=by
 subst I;have hA:=Be h.t1;have J:=h.na;have s12:=l.size;have s4:(i.alloc (.cells #[.string y.key,.slice o y.gs.length m,.string y.out] 145)).heap.size=i.heap.size+1:=X4;have s5:=j.size;have sT:(a.setCell ⟨A,2,none⟩ (.slice f (P.length+1) d)).heap.size=a.heap.size:=X4;have H:∀ k,(Value.slice a2 P.length c2).ownBlock=some k->k<V1.heap.size:=fun k e=>Xe h.rc.row e;have s:some A≠(Value.slice a2 P.length c2).ownBlock:=fun e=>absurd (Y8 h.t1 (N8 h.rc.row e.symm)) o6;have B:∀ k,k<i.heap.size->k≠A->(Value.slice a2 P.length c2).ownBlock≠some k->(a.setCell ⟨A,2,none⟩ (.slice f (P.length+1) d)).heap[k]?=i.heap[k]?:=fun k p v u=>by
  rw [Ec _ _ _ _ (by exact v)];refine (j.block k O0 (fun e=>u e.symm)).trans ?_;exact Ov _ _ k p
 have C:∀ k,k<V1.heap.size->k≠A->(Value.slice a2 P.length c2).ownBlock≠some k->(a.setCell ⟨A,2,none⟩ (.slice f (P.length+1) d)).heap[k]?=V1.heap[k]?:=fun k p v u=>(B k O0 v u).trans (l.block k p);have z:∀ k t,ng V1 k t->t≠145->t≠43->(a.setCell ⟨A,2,none⟩ (.slice f (P.length+1) d)).heap[k]?=V1.heap[k]?:=fun k t hT ht F=>by
  refine C k (Be hT) (fun e=>F ?_) (fun e=>ht ?_)
  · subst e;exact Y8 hT h.t1
  · exact Y8 hT (N8 h.rc.row e)
 have R:D5 (i.alloc (.cells #[.string y.key,.slice o y.gs.length m,.string y.out] 145)) A [.int .i64 W0,.slice (some ⟨g,0,none⟩) ts.length c,.slice a2 P.length c2]:=(h.bl.below l O0).below (N:=i.heap.size) ((Z4 _ _).alloc X4 _) O0;have E:X6 (i.alloc (.cells #[.string y.key,.slice o y.gs.length m,.string y.out] 145)) A:=(h.op.below l O0).below (N:=i.heap.size) ((Z4 _ _).alloc X4 _) O0;have Q:=N9 R j O0 s;have D:=Af E j O0 s;have O:D5 (a.setCell ⟨A,2,none⟩ (.slice f (P.length+1) d)) A [.int .i64 W0,.slice (some ⟨g,0,none⟩) ts.length c,.slice f (P.length+1) d]:=Q.set 2 _ X4;have w:ng a A 43:=by
  obtain ⟨cur,fr,e⟩:=h.t1;refine ⟨cur,fr,(j.block _ O0 s).trans ((Ov _ _ _ O0).trans ?_)⟩;exact (l.block _ O0).trans e
 have bT:Below N V (a.setCell ⟨A,2,none⟩ (.slice f (P.length+1) d)):=⟨(j.os.trans (l.os)).trans h.bw.os,(j.tape.trans (l.tape)).trans h.bw.tape,(j.output.trans (l.output)).trans h.bw.output,by have:=h.bw.size;omega,fun k p=>(C k O0 O0 (fun e=>by have:=J6 h.rc.row e;omega)).trans (h.bw.block k p)⟩;have K:(a.setCell ⟨A,2,none⟩ (.slice f (P.length+1) d)).ownsRow N 205 3 (.slice o y.gs.length m) y.gs.length (gC y.gs):=H9 (o7 r (fun q b=>B q (Xe r b) (fun e=>by have:=J6 r b;omega) (fun e=>by have:=H q e;have:=J6 r b;omega))) O0;have e1:(P++[y]).length=P.length+1:=X4;refine ⟨by rw [e1];exact O,?_,o7 h.tr (fun q b=>z q 9 (N8 h.tr b) o6 o6),D.set _ _,Ah w 2 _,J,bT⟩;rw [e1];refine zF h.rc K (o7 x (fun q b=>Ec _ _ _ _ (fun e=>?_))) (fun q b=>z q 205 b o6 o6) (fun q b=>J6 r b);have L:q=A:=e;exact absurd (Y8 (N8 x b) (L▸w)) o6
theorem dJ {rs:List R3} {x:R3} (h:b=true↔∃ j,j<rs.length/\rs.getD j f_=x):b=true↔x∈rs:=by
 rw [h];constructor
 · rintro ⟨j,a,e⟩;simp only [List.getD,Z8 a,qf] at e;rw [<- e];exact Bj a
 · intro hm;obtain ⟨j,a,e⟩:=Zd hm;refine ⟨j,a,?_⟩;simp only [List.getD,Z8 a,qf];exact e
theorem iL (h:Xg s) (h2:Zf m ls c t) (a:Y7 s.wd (Jl ls c t) (s.ts,true)=(T,false)):F_ s m ls c t=(st0,3):=by
 simp [F_,h,h2,a]
theorem Dx (h:Xg s) (h2:Zf m ls c t) (d:Y7 s.wd (Jl ls c t) (s.ts,true)=(T,true)) (b:Hf s.rs (qh s.wd m ls c t)=P) (a:300<T.length\/150<P.length):F_ s m ls c t=(st0,4):=by
 simp only [F_,h,h2,d,b,a,not_true_eq_false,if_false,if_true];simp
theorem uJ (h:Xg s) (h2:Zf m ls c t) (e:Y7 s.wd (Jl ls c t) (s.ts,true)=(T,true)) (d:Hf s.rs (qh s.wd m ls c t)=P) (b:¬ 300<T.length) (a:¬ 150<P.length):F_ s m ls c t=(⟨s.wd,T,P⟩,0):=by
 simp [F_,h,h2,e,d,b,a]
theorem qJ (h:Xg s) (i:Nat):(s.rs.getD i f_).gs.length<=1000:=by
 by_cases a:i<s.rs.length
 · exact G7 (h.2.2.2 i a).1.2.2 o6
 · simp [List.getD,Yb (Tv a),f_]
theorem nS (h:w.ownsRow b0 9 1 (.slice ta ts.length tc) ts.length (ts.map Value.string)):P7 w ta ts:=by
 rcases h.2 with ⟨_,h0⟩ | ⟨g,cap,cur,hv,_⟩
 · exact .inl (Va.1 h0)
 · injection hv with hv _ h3;subst hv h3;obtain ⟨h1,_,_,b⟩:=YF h;exact .inr ⟨g,0,rfl,h1,fun i a=>by rw [L8];exact b i a⟩
theorem vz {ra:OA} {rc:Nat} (h:Td w b0 s.ts s.rs (.slice ta s.ts.length tc) (.slice ra s.rs.length rc)):Ig w ta ra s:=by
 obtain ⟨h1,vs,h2⟩:=h;exact ⟨nS h1,uF h2⟩
theorem kx {a b c:Value} (x y z:Value) (f:D5 U (w.heap.size+3) [a,b,c]) (e:X6 U (w.heap.size+3)) (d:Below (w.heap.size+4) U u) (bw:Bw w u):u.cell? ⟨w.heap.size+3,0,none⟩=some a/\u.cell? ⟨w.heap.size+3,1,none⟩=some b/\u.cell? ⟨w.heap.size+3,2,none⟩=some c/\u.frozen? ⟨w.heap.size+3,0,none⟩=false/\u.frozen? ⟨w.heap.size+3,1,none⟩=false/\u.frozen? ⟨w.heap.size+3,2,none⟩=false/\(((u.setCell ⟨w.heap.size+3,0,none⟩ x).setCell ⟨w.heap.size+3,1,none⟩ y).setCell ⟨w.heap.size+3,2,none⟩ z).cell? ⟨w.heap.size+3,0,none⟩=some x/\(((u.setCell ⟨w.heap.size+3,0,none⟩ x).setCell ⟨w.heap.size+3,1,none⟩ y).setCell ⟨w.heap.size+3,2,none⟩ z).cell? ⟨w.heap.size+3,1,none⟩=some y/\(((u.setCell ⟨w.heap.size+3,0,none⟩ x).setCell ⟨w.heap.size+3,1,none⟩ y).setCell ⟨w.heap.size+3,2,none⟩ z).cell? ⟨w.heap.size+3,2,none⟩=some z/\Bw w (((u.setCell ⟨w.heap.size+3,0,none⟩ x).setCell ⟨w.heap.size+3,1,none⟩ y).setCell ⟨w.heap.size+3,2,none⟩ z):=by
 have B:=f.below d O0;have O:=e.below d O0;have Z:D5 (((u.setCell ⟨w.heap.size+3,0,none⟩ x).setCell ⟨w.heap.size+3,1,none⟩ y).setCell ⟨w.heap.size+3,2,none⟩ z) (w.heap.size+3) [x,y,z]:=((B.set 0 _ X4).set 1 _ X4).set 2 _ X4;exact ⟨B 0 _ rfl,B 1 _ rfl,B 2 _ rfl,O 0,O 1,O 2,Z 0 _ rfl,Z 1 _ rfl,Z 2 _ rfl,((bw.setCell (p:=⟨w.heap.size+3,0,none⟩) (by show w.heap.size<=w.heap.size+3;omega) _).setCell (p:=⟨w.heap.size+3,1,none⟩) (by show w.heap.size<=w.heap.size+3;omega) _).setCell (p:=⟨w.heap.size+3,2,none⟩) (by show w.heap.size<=w.heap.size+3;omega) _⟩
theorem al4 (w:World) (a b c d:List Value) (p q r s:TypeId):∃ U,U=(((w.alloc (.cells a.toArray p)).alloc (.cells b.toArray q)).alloc (.cells c.toArray r)).alloc (.cells d.toArray s)/\Bw w U/\U.heap.size=w.heap.size+4/\D5 U w.heap.size a/\D5 U (w.heap.size+1) b/\D5 U (w.heap.size+2) c/\D5 U (w.heap.size+3) d/\X6 U (w.heap.size+3):=by
 have i:(w.alloc (.cells a.toArray p)).heap.size=w.heap.size+1:=X4;have h:((w.alloc (.cells a.toArray p)).alloc (.cells b.toArray q)).heap.size=w.heap.size+2:=X4;have g:(((w.alloc (.cells a.toArray p)).alloc (.cells b.toArray q)).alloc (.cells c.toArray r)).heap.size=w.heap.size+3:=X4;have h1:=Y4 w a p;have h2:=Y4 (w.alloc (.cells a.toArray p)) b q;have f:=Y4 ((w.alloc (.cells a.toArray p)).alloc (.cells b.toArray q)) c r;have e:=Y4 (((w.alloc (.cells a.toArray p)).alloc (.cells b.toArray q)).alloc (.cells c.toArray r)) d s;rw [i] at h2;rw [h] at f;rw [g] at e;exact ⟨_,rfl,((P6.alloc X4 _).alloc U7 _).alloc U7 _,X4,(G9 (G9 (G9 h1 _) _) _).blk,(G9 (G9 h2 _) _).blk,(G9 f _).blk,e.blk,fun j=>e.opn j⟩
theorem ky {c:Nat} (x y z:Value) (H:LC U (w.heap.size+4) A W T g c P a2 c2 vs u):Td (((u.setCell ⟨w.heap.size+3,0,none⟩ x).setCell ⟨w.heap.size+3,1,none⟩ y).setCell ⟨w.heap.size+3,2,none⟩ z) w.heap.size T P (.slice (some ⟨g,0,none⟩) T.length c) (.slice a2 P.length c2):=by
 have E:∀ k,k≠w.heap.size+3->(((u.setCell ⟨w.heap.size+3,0,none⟩ x).setCell ⟨w.heap.size+3,1,none⟩ y).setCell ⟨w.heap.size+3,2,none⟩ z).heap[k]?=u.heap[k]?:=fun k a=>(Ec _ _ _ k (by exact a)).trans ((Ec _ _ _ k (by exact a)).trans (Ec _ _ _ k (by exact a)));have h:=H.rc.keep (W':=((u.setCell ⟨w.heap.size+3,0,none⟩ x).setCell ⟨w.heap.size+3,1,none⟩ y).setCell ⟨w.heap.size+3,2,none⟩ z) (fun q t _ _ b=>E q (fun e=>O0));exact ⟨H9 (o7 H.tr (fun q b=>E q (fun e=>by have:=J6 H.tr b;omega))) O0,_,h.len,H9 h.row O0,fun i d=>by
  obtain ⟨j,c3,e,f⟩:=h.gl i d;exact ⟨j,c3,e,H9 f O0⟩,h.apart⟩
theorem c145 (s:St) (m:M3) (ls:List L4) (c:Int) (t:BY) (b0:Nat) (ta ra la:OA) (tc rc lc:Nat) (w:World) (hs:s.le 1048576) (hm:m.le 1048576) (hl:ls.length<=1048576) (hls:∀ i,(ls.getD i E_).le 1048576) (ht:t.size<=1048576) (hst:Td w b0 s.ts s.rs (.slice ta s.ts.length tc) (.slice ra s.rs.length rc)) (hla:o9 w la ls):
 Calls prog 145 #[.agg #[.int .i64 s.wd,.slice ta s.ts.length tc,.slice ra s.rs.length rc],.agg #[.string m.nm,.string m.tl,.string m.ar],.slice la ls.length lc,.agg #[.int .i64 c,.string t]] w fun e w'=>Vt s m ls c t w.heap.size w' e/\Bw w w':=by
 obtain ⟨U3,hU,V,s0,BS0,BM0,BC0,X,W⟩:=al4 w [vI s.wd,vL ta s.ts.length tc,vL ra s.rs.length rc] [vS m.nm,vS m.tl,vS m.ar] [vI c,vS t] [vO,vN,vN] 43 135 103 43
 replace BS0:=U0 BS0
 replace BM0:=U0 BM0
 replace BC0:=U0 BC0
 replace X:=U0 X
 replace W:=U0 W
 have y0:=BS0.out 0 _ rfl;have y1:=BS0.out 1 _ rfl;have y2:=BS0.out 2 _ rfl;have HST:=U0 hst;have HL:=U0 hla;have h22:=c194 ta ra tc rc s _ hs ((vz hst).below V);have S0:=U0 s0;clear hst hla s0;obtain ⟨iR,hi1,jz0,jz1,jz2⟩:=info_parts' mG;go_enter func145,ntmps145
 go_upto_region 1 with fail
 rw [<- hU];clear hU
 go_wp2_with fail
 refine h22.mono ?_;rintro e w1 ⟨⟨bo,rfl,hbo⟩,Y⟩;clear h22;change Below _ _ _ at Y;rw [S0.out] at Y;have s1:w.heap.size+4<=w1.heap.size:=by have:=Y.size;rw [S0.out] at this;exact this
 have BW1:=V.trans (Y.mono O0);cases bo
 · have r:=U0 (NR (m:=m) (ls:=ls) (c:=c) (t:=t) (fun h=>absurd (hbo.2 h) o6));clear hbo y0 y1 y2;obtain ⟨p0,p1,p2,o0,o1,o2,e0,e1,l,z⟩:=kx vO vN vN X.out W.out Y (BW1);go_wp2;refine Y6 (v:=.tuple #[.agg #[vO,vN,vN],vI 1]) (by simp [results,results145,go_sem,e0,e1,l]) rfl ⟨Fe r.out,z⟩
 · have F:=U0 (hbo.1 rfl);have m0:=(BM0.out.below Y O0) 0 _ rfl;have m1:=(BM0.out.below Y O0) 1 _ rfl;have m2:=(BM0.out.below Y O0) 2 _ rfl;have q0:=(BC0.out.below Y O0) 0 _ rfl;have q1:=(BC0.out.below Y O0) 1 _ rfl;have h23:=a0R m ls c t la lc w1 hm hl hls ht (l7 HL.out BW1);clear hbo y0 y1 y2
   go_wp2_with fail
   refine h23.mono ?_;rintro e w2 ⟨⟨b2,rfl,a4N⟩,hb2⟩;clear h23 m0 m1 m2 q0 q1;have k2:=Y.trans (hb2.mono s1);have s2:w.heap.size+4<=w2.heap.size:=by have:=k2.size;rw [S0.out] at this;exact this
   have BW2:=V.trans (k2.mono O0);cases b2
   · have r:=U0 (YL (s:=s) F.out (show ¬ Zf m ls c t from fun h=>absurd (a4N.2 h) o6));clear a4N;obtain ⟨p0,p1,p2,o0,o1,o2,e0,e1,l,z⟩:=kx vO vN vN X.out W.out k2 (BW2);go_wp2;refine Y6 (v:=.tuple #[.agg #[vO,vN,vN],vI 2]) (by simp [results,results145,go_sem,e0,e1,l]) rfl ⟨Fe r.out,z⟩
   · have HRK:=U0 (a4N.1 rfl);have x0:=(BS0.out.below k2 O0) 0 _ rfl;have x1:=(BS0.out.below k2 O0) 1 _ rfl;have x2:=(BS0.out.below k2 O0) 2 _ rfl;have h24:=a1Q s b0 (vL ta s.ts.length tc) (vL ra s.rs.length rc) w2 (G7 F.out.2.1.1 o6) (G7 F.out.2.2.1 o6) (qJ F.out) (dw HST.out BW2);clear a4N
     go_wp2_with (refine h24.mono ?_;rintro e w3 ⟨⟨g3,c3,C,q,rfl,hso⟩,hb3⟩)
     clear h24 x0 x1 x2;obtain ⟨a5h,vs,a4E⟩:=hso;have k3:=k2.trans (hb3.mono s2);have s3:w.heap.size+4<=w3.heap.size:=by have:=k3.size;rw [S0.out] at this;exact this
     have kA:Bw w3 (w3.alloc (.cells #[vI s.wd,vL (some ⟨g3,0,none⟩) s.ts.length c3,vL C s.rs.length q] 43)):=P6;have LC0:Hid (LC U3 (w.heap.size+4) w3.heap.size s.wd s.ts g3 c3 s.rs C q vs (w3.alloc (.cells #[vI s.wd,vL (some ⟨g3,0,none⟩) s.ts.length c3,vL C s.rs.length q] 43))):=U0 ⟨Z7 w3 [vI s.wd,vL (some ⟨g3,0,none⟩) s.ts.length c3,vL C s.rs.length q] 43,⟨a4E.len,H9 (own_below a4E.row kA) s2,fun i hi=>by
      obtain ⟨a3,c3',e,h3⟩:=a4E.gl i hi;exact ⟨a3,c3',e,H9 (own_below h3 kA) s2⟩,a4E.apart⟩,H9 (own_below a5h kA) s2,Qa w3 #[vI s.wd,vL (some ⟨g3,0,none⟩) s.ts.length c3,vL C s.rs.length q] 43,Gi w3 #[vI s.wd,vL (some ⟨g3,0,none⟩) s.ts.length c3,vL C s.rs.length q] 43,s3,k3.alloc s3 _⟩
     have hAz:=s3;generalize hA:w3.heap.size=A at*;clear a5h a4E;go_loopw [11,12] (fun f i wr=>∃ (k:Nat) (T:List ByteArray) (b:Bool) (gg cc:Nat),k<=ls.length/\i=.int .i64 k/\f=.bool b/\Hid (Y7 s.wd (oC ls k) (s.ts,true)=(T,b))/\Hid (LC U3 (w.heap.size+4) A s.wd T gg cc s.rs C q vs wr)) (fun _ i _=>ls.length - (Go.RowKit.intOf i).toNat)
     case atStart=>exact ⟨0,s.ts,true,g3,c3,J4 _,rfl,rfl,by show _=_;simp [oC,n_,Y7],LC0⟩
     case round=>
      obtain ⟨k,T,b,gg,cc,hk,rfl,rfl,HPA,HLC⟩:=hrel;have hbw:=HLC.out.bw;have BWr:=V.trans (hbw.mono O0);have hwr:w.heap.size+4<=wr.heap.size:=by have:=hbw.size;rw [S0.out] at this;exact this
      by_cases hlt:k<ls.length
      · rcases l7 HL.out BWr with he | ⟨lb,lq,a5S,hlb,hcell⟩
        · rw [he] at hlt;exact absurd hlt (J8 _)
        subst a5S;obtain ⟨l0,l1,l2,l3⟩:=hcell k hlt;have htx:=(hls k).2;have HFN:=U0 (MP hlt);generalize ls.getD k E_=x at*;clear hcell;cases hh:x.has
        · rw [hh] at l0;obtain ⟨fm,hfm⟩:∃ fm,XA x.cd x.tx=fm:=⟨_,rfl⟩;have hfs:fm.size<=1048700:=by rw [<- hfm];have:=Zo x.cd x.tx;omega
          obtain ⟨g,b',hp⟩:∃ g b',Eb s.wd fm T=(g,b'):=⟨_,_,rfl⟩;have hTl:T.length<=1000000:=by
           have h:=Gv s.wd (oC ls k) (s.ts,true);rw [HPA.out] at h;have:=XK ls k;have:=F.out.2.1.1;have:=HRK.out.2.1.1;simp only [] at h;omega
          have hTA:Wh s.wd T:=by have h:=Oq (a:=oC ls k) (b:=true) (Dl F.out);rw [HPA.out] at h;exact h
          have O:Hid (Y7 s.wd (oC ls (k+1)) (s.ts,true)=(g,b&&b')):=by
           have e:=HFN.out;rw [hh,hfm] at e;have l:oC ls (k+1)=oC ls k++[fm]:=e;show _=_;rw [l,Xv,HPA.out];simp only [];rw [hp]
          clear hh
          go_wp2_with fail
          refine r11 (N:=w.heap.size+4) HLC.out.bl (Be HLC.out.t1) hlb l2 l3 hfm O0 hfs hTA hTl (Vs HPA.out (fun i=>G7 (hs.1.2 i) O0) (JB hls k)) hp HLC.out.tr hwr hlt (fun _ _ _ _ _ h=>h) ?_;intro y44 y45 y46 y47 y48 y49 y50 y51 y52 y53 y54 I L B E kE hB1 hB2 ZB RE;have n:=U0 (HLC.out.below kE);have j0:=ZB 0 _ rfl;have j1:=ZB 1 _ rfl;have j2:=ZB 2 _ rfl;have i0:=n.out.bl 0 _ rfl;have i1:=n.out.bl 1 _ rfl;have i2:=n.out.bl 2 _ rfl;have f0:=n.out.op 0;have f1:=n.out.op 1;have f2:=n.out.op 2;have U:Hid (LC U3 (w.heap.size+4) A s.wd g I L s.rs C q vs (((E.setCell ⟨A,0,none⟩ (vI s.wd)).setCell ⟨A,1,none⟩ (vL (some ⟨I,0,none⟩) g.length L)).setCell ⟨A,2,none⟩ (vL C s.rs.length q))):=U0 (NT n.out RE (fun k hk=>(Ec _ _ _ _ (by exact hk)).trans ((Ec _ _ _ _ (by exact hk)).trans (Ec _ _ _ _ (by exact hk)))) (((n.out.bl.set 0 _ X4).set 1 _ X4).set 2 _ X4) (((n.out.op.set _ _).set _ _).set _ _) (Ah (Ah (Ah n.out.t1 0 _) 1 _) 2 _) (((n.out.bw.setCell (p:=⟨A,0,none⟩) hAz _).setCell (p:=⟨A,1,none⟩) hAz _).setCell (p:=⟨A,2,none⟩) hAz _));clear ZB RE;cases b
          · go_wp2;go_roundw
            case rel=>exact ⟨k+1,g,false,I,L,O0,by go_num,rfl,O,U⟩
            case measure=>simp [Go.RowKit.intOf];omega
          · go_wp2;go_roundw
            case rel=>exact ⟨k+1,g,b',I,L,O0,by go_num,rfl,O,U⟩
            case measure=>simp [Go.RowKit.intOf];omega
        · rw [hh] at l0;have O:Hid (Y7 s.wd (oC ls (k+1)) (s.ts,true)=(T,b)):=by
           have e:=HFN.out;rw [hh] at e;have l:oC ls (k+1)=oC ls k:=by rw [e];simp
           show _=_;rw [l];exact HPA.out
          clear hh;go_wp2;go_roundw
          case rel=>exact ⟨k+1,T,b,gg,cc,O0,by go_num,rfl,O,HLC⟩
          case measure=>simp [Go.RowKit.intOf];omega
      · obtain rfl:k=ls.length:=O0;obtain ⟨fm,hfm⟩:∃ fm,XA c t=fm:=⟨_,rfl⟩;have hfs:fm.size<=1048700:=by rw [<- hfm];have:=Zo c t;omega
        obtain ⟨g,b',hp⟩:∃ g b',Eb s.wd fm T=(g,b'):=⟨_,_,rfl⟩;have hTl:T.length<=1000000:=by
         have h:=Gv s.wd (oC ls ls.length) (s.ts,true);rw [HPA.out] at h;have:=XK ls ls.length;have:=F.out.2.1.1;have:=HRK.out.2.1.1;simp only [] at h;omega
        have hTA:Wh s.wd T:=by have h:=Oq (a:=oC ls ls.length) (b:=true) (Dl F.out);rw [HPA.out] at h;exact h
        have O:Hid (Y7 s.wd (Jl ls c t) (s.ts,true)=(g,b&&b')):=by
         show _=_;rw [a1m,hfm,Xv,HPA.out];simp only [];rw [hp]
        have q0:=(BC0.out.below hbw O0) 0 _ rfl;have q1:=(BC0.out.below hbw O0) 1 _ rfl
        go_wp2_with fail
        refine r14 (N:=w.heap.size+4) HLC.out.bl (Be HLC.out.t1) O0 q0 q1 hfm O0 hfs hTA hTl (Vs HPA.out (fun i=>G7 (hs.1.2 i) O0) (JB hls ls.length)) hp HLC.out.tr hwr (fun _ _ _ _ _ h=>h) ?_;intro y60 y61 y62 y63 y64 y65 y66 I L B E kE hB1 hB2 ZB RE;have n:=U0 (HLC.out.below kE);have j0:=ZB 0 _ rfl;have j1:=ZB 1 _ rfl;have j2:=ZB 2 _ rfl;have i0:=n.out.bl 0 _ rfl;have i1:=n.out.bl 1 _ rfl;have i2:=n.out.bl 2 _ rfl;have f0:=n.out.op 0;have f1:=n.out.op 1;have f2:=n.out.op 2;have U:Hid (LC U3 (w.heap.size+4) A s.wd g I L s.rs C q vs (((E.setCell ⟨A,0,none⟩ (vI s.wd)).setCell ⟨A,1,none⟩ (vL (some ⟨I,0,none⟩) g.length L)).setCell ⟨A,2,none⟩ (vL C s.rs.length q))):=U0 (NT n.out RE (fun k hk=>(Ec _ _ _ _ (by exact hk)).trans ((Ec _ _ _ _ (by exact hk)).trans (Ec _ _ _ _ (by exact hk)))) (((n.out.bl.set 0 _ X4).set 1 _ X4).set 2 _ X4) (((n.out.op.set _ _).set _ _).set _ _) (Ah (Ah (Ah n.out.t1 0 _) 1 _) 2 _) (((n.out.bw.setCell (p:=⟨A,0,none⟩) hAz _).setCell (p:=⟨A,1,none⟩) hAz _).setCell (p:=⟨A,2,none⟩) hAz _));clear ZB RE;have hwE:w.heap.size+4<=(((E.setCell ⟨A,0,none⟩ (vI s.wd)).setCell ⟨A,1,none⟩ (vL (some ⟨I,0,none⟩) g.length L)).setCell ⟨A,2,none⟩ (vL C s.rs.length q)).heap.size:=by have:=U.out.bw.size;rw [S0.out] at this;exact this
        have m0:=(BM0.out.below U.out.bw O0) 0 _ rfl;have m1:=(BM0.out.below U.out.bw O0) 1 _ rfl;have m2:=(BM0.out.below U.out.bw O0) 2 _ rfl;have v0:=(BC0.out.below U.out.bw O0) 0 _ rfl;have v1:=(BC0.out.below U.out.bw O0) 1 _ rfl;have x0:=(BS0.out.below U.out.bw O0) 0 _ rfl;have h27:=c198 m ls c t s.wd la lc (((E.setCell ⟨A,0,none⟩ (vI s.wd)).setCell ⟨A,1,none⟩ (vL (some ⟨I,0,none⟩) g.length L)).setCell ⟨A,2,none⟩ (vL C s.rs.length q)) ⟨G7 hm.1 O0,G7 hm.2.1 O0,G7 hm.2.2 O0⟩ O0 (by have h:=hfs;rw [<- hfm] at h;exact h) hl (fun i=>⟨G7 (hls i).2 O0,dL (hls i).2⟩) (l7 HL.out (V.trans (U.out.bw.mono O0)));cases b
        all_goals
          go_wp2_with fail
          refine h27.mono ?_;rintro e D ⟨⟨v5,rfl,hv5⟩,hb5⟩;obtain ⟨Q,J,rfl⟩:=I9 hv5;rw [kZ] at hv5;have HV5:=U0 hv5;have L5:=U0 (U.out.below hb5);clear h27 hv5 m0 m1 m2 v0 v1 x0;generalize hsm:Z5 (J3 (O8 c t.data.toList)) s.wd=o at*;have HSM:=U0 hsm;clear hsm;have L6:=U0 (L5.out.below (W':=(D.alloc (.cells #[vS (d_ m),vL Q ls.length J,vS o] 145))) P6);have BR6:=U0 (Z7 D [vS (d_ m),vL Q ls.length J,vS o] 145)
          go_wp2_with fail
          have HGL:=U0 (sJ (gs:=ls.map (Vm s.wd)) (c:=J) (by rw [Vd];exact HV5.out));have HR0:Hid (qh s.wd m ls c t=⟨d_ m,ls.map (Vm s.wd),o⟩):=U0 (by rw [<- HSM.out];rfl);have s5:D.heap.size+1=(D.alloc (.cells #[vS (d_ m),vL Q ls.length J,vS o] 145)).heap.size:=X4;have a4U:Bw D (D.alloc (.cells #[vS (d_ m),vL Q ls.length J,vS o] 145)):=P6;generalize (D.alloc (.cells #[vS (d_ m),vL Q ls.length J,vS o] 145))=E6 at*;go_loopw [18,19] (fun th i wr=>∃ (k:Nat) (b2:Bool),k<=s.rs.length/\th=.bool b2/\i=.int .i64 k/\Hid (b2=true↔∃ j,j<k/\s.rs.getD j f_=⟨d_ m,ls.map (Vm s.wd),o⟩)/\Below E6.heap.size E6 wr) (fun _ i _=>s.rs.length - (Go.RowKit.intOf i).toNat)
          case atStart=>exact ⟨0,false,J4 _,rfl,rfl,by show _↔_;simp,Z4 _ _⟩
          case round=>
           obtain ⟨k,b2,hk,rfl,rfl,hq,R⟩:=hrel;have Z:=U0 (L6.out.below R);have hAw:=Be Z.out.t1;have hsl:=hs.2.1;have h5w:D.heap.size<wr.heap.size:=by have:=R.size;omega
           by_cases hlt:k<s.rs.length
           · have o2:=Z.out.bl 2 _ rfl;rcases uF Z.out.rc with he | ⟨rb,ro,hra,hrb,hcell⟩
             · rw [he] at hlt;exact absurd hlt (J8 _)
             subst hra;have hrx:=hs.2.2 k;obtain ⟨ai,ci,g0,g1,g2,g3⟩:=hcell k hlt;clear hcell;have t0:=(BR6.out.below R O0) 0 _ rfl;have t1:=(BR6.out.below R O0) 1 _ rfl;have t2:=(BR6.out.below R O0) 2 _ rfl;cases b2
             · have h28:=c97 (s.rs.getD k f_) ⟨d_ m,ls.map (Vm s.wd),o⟩ ai Q ci J wr.drew hrx.2.1 (by simpa using hl) (P8 g3 (Z4 _ _).drew) (P8 HGL.out ((a4U.trans (R.mono O0)).trans ((Z4 wr.heap.size wr).drew.mono O0)));simp only [Vd] at h28;have HQ:Hid (∀ bo:Bool,(bo=true↔s.rs.getD k f_=⟨d_ m,ls.map (Vm s.wd),o⟩)->(bo=true↔∃ j,j<k+1/\s.rs.getD j f_=⟨d_ m,ls.map (Vm s.wd),o⟩)):=fun bo hbo=>by
                rw [hbo];constructor
                · intro e;exact ⟨k,O0,e⟩
                · rintro ⟨j,hj,e⟩;rcases Q7 j k with h | h
                  · exact absurd (hq.out.2 ⟨j,h,e⟩) o6
                  · obtain rfl:j=k:=O0;exact e
               generalize s.rs.getD k f_=x at*;clear hrx hq
               go_wp2_with fail
               refine wp_region_held_drew (S:=(fun u=>u.cell? ⟨A,2,none⟩=some (vL (some ⟨rb,ro,none⟩) s.rs.length q)/\u.cell? ⟨rb,ro+k*3,none⟩=some (vS x.key)/\u.cell? ⟨rb,ro+k*3+1,none⟩=some (vL ai x.gs.length ci)/\u.cell? ⟨rb,ro+k*3+2,none⟩=some (vS x.out)/\u.cell? ⟨D.heap.size,0,none⟩=some (vS (d_ m))/\u.cell? ⟨D.heap.size,1,none⟩=some (vL Q ls.length J)/\u.cell? ⟨D.heap.size,2,none⟩=some (vS o))) Y2 ?_ fun hHeld=>?_
               · ((try dsimp only);first | exact ⟨o2,g0,g1,g2,t0,t1,t2⟩ | exact ⟨(H.cell (p:=⟨A,2,none⟩) hAw).trans o2,(H.cell (p:=⟨rb,ro+k*3,none⟩) hrb).trans g0,(H.cell (p:=⟨rb,ro+k*3+1,none⟩) hrb).trans g1,(H.cell (p:=⟨rb,ro+k*3+2,none⟩) hrb).trans g2,(H.cell (p:=⟨D.heap.size,0,none⟩) h5w).trans t0,(H.cell (p:=⟨D.heap.size,1,none⟩) h5w).trans t1,(H.cell (p:=⟨D.heap.size,2,none⟩) h5w).trans t2⟩)
               refine Y0 0 ?_;refine Y0 1 ?_;refine Y0 2 ?_;refine Y0 3 ?_;refine Y0 4 ?_;refine Y0 5 ?_;refine Y0 6 ?_;refine Y0 7 ?_;refine rq 8 fun K hK=>?_;go_simp;refine h28.mono ?_;rintro e w7 ⟨⟨bo,rfl,hbo⟩,a5T⟩;have H:=(Z4 wr.heap.size wr).drew.trans a5T
               go_wp2_with fail
               clear hHeld;refine E8 hK ?_ fun hHeld=>?_
               · ((try dsimp only);first | exact ⟨o2,g0,g1,g2,t0,t1,t2⟩ | exact ⟨(H.cell (p:=⟨A,2,none⟩) hAw).trans o2,(H.cell (p:=⟨rb,ro+k*3,none⟩) hrb).trans g0,(H.cell (p:=⟨rb,ro+k*3+1,none⟩) hrb).trans g1,(H.cell (p:=⟨rb,ro+k*3+2,none⟩) hrb).trans g2,(H.cell (p:=⟨D.heap.size,0,none⟩) h5w).trans t0,(H.cell (p:=⟨D.heap.size,1,none⟩) h5w).trans t1,(H.cell (p:=⟨D.heap.size,2,none⟩) h5w).trans t2⟩)
               clear hK K;refine Y0 9 ?_;refine Y0 10 ?_;refine wdn ?_;go_wp2;go_roundw
               case rel=>exact ⟨k+1,bo,O0,rfl,by go_num,HQ.out bo hbo,X5 R H⟩
               case measure=>simp [Go.RowKit.intOf];omega
             · have HQ:Hid (∃ j,j<k+1/\s.rs.getD j f_=⟨d_ m,ls.map (Vm s.wd),o⟩):=by
                obtain ⟨j,hj,e⟩:=hq.out.1 rfl;exact ⟨j,O0,e⟩
               clear hrx hq g3
               go_wp2_with fail
               refine wp_region_held_drew (S:=(fun _=>True)) Y2 ?_ fun hHeld=>?_
               · ((try dsimp only);all_goals trivial)
               refine Y0 0 ?_;refine Y0 1 ?_;refine E5 2 ?_;refine E5 3 ?_;refine E5 4 ?_;refine E5 5 ?_;refine E5 6 ?_;refine E5 7 ?_;refine E5 8 ?_;refine Y0 9 ?_;refine Y0 10 ?_;refine wdn ?_;go_wp2;go_roundw
               case rel=>exact ⟨k+1,true,O0,rfl,by go_num,⟨fun _=>HQ.out,fun _=>rfl⟩,R.drew⟩
               case measure=>simp [Go.RowKit.intOf];omega
           · obtain rfl:k=s.rs.length:=O0;have hmem:=dJ hq.out;rw [<- HR0.out] at hmem;clear hq;cases b2
             · have HPR:Hid (Hf s.rs (qh s.wd m ls c t)=s.rs++[⟨d_ m,ls.map (Vm s.wd),o⟩]):=by
                show Hf _ _=_;unfold Hf;rw [I7 (fun h=>absurd (hmem.2 h) o6),HR0.out]
               clear hmem;have o2:=Z.out.bl 2 _ rfl;have t0:=(BR6.out.below R O0) 0 _ rfl;have t1:=(BR6.out.below R O0) 1 _ rfl;have t2:=(BR6.out.below R O0) 2 _ rfl;have HO:Hid ((wr.alloc (.cells #[vS (d_ m),vL Q ls.length J,vS o] 145)).ownsRow (w.heap.size+4) 145 3 (vL C s.rs.length q) s.rs.length (rC s.rs vs)):=own_below Z.out.rc.row P6;have HR:Hid (∀ j u,([vS (d_ m),vL Q ls.length J,vS o]:List Value)[j]?=some u->(wr.alloc (.cells #[vS (d_ m),vL Q ls.length J,vS o] 145)).cell? ((⟨wr.heap.size,0,none⟩:Addr).add j)=some u):=fun j u hj=>by
                rw [Ag,L8];exact Z7 wr [vS (d_ m),vL Q ls.length J,vS o] 145 j u hj
               have B4:=U0 ((Z.out.bl).below (N:=wr.heap.size) ((Z4 _ _).alloc H8 (.cells #[vS (d_ m),vL Q ls.length J,vS o] 145)) hAw);have O4:=U0 ((Z.out.op).below (N:=wr.heap.size) ((Z4 _ _).alloc H8 (.cells #[vS (d_ m),vL Q ls.length J,vS o] 145)) hAw);have hwN:w.heap.size+4<=wr.heap.size:=by have:=Z.out.na;omega
               have hmark:=trivial
               go_wp2_with (refine Dq rfl (.tmp 98) (.tmp 100) 41 rfl (w.heap.size+4) 145 iR (.agg #[.string ⟨#[]⟩,.slice none 0 0,.string ⟨#[]⟩]) 3 56 underlying41 hi1 jz0 jz1 jz2 rfl o6 _ _ _ rfl HO.out ⟨wr.heap.size,0,none⟩ 1 1 [.string (d_ m),.slice Q ls.length J,.string o] rfl rfl HR.out (by simp [Value.oneCell']) (by unfold maxLen;omega) O0 U7 ?_;revert hmark)
               intro v6 w6 hown hgrow;obtain ⟨a6,a4m,rfl⟩:=I9 hown;have neS:some A≠(Value.slice C s.rs.length q).ownBlock:=fun e=>absurd (Y8 Z.out.t1 (N8 Z.out.rc.row e.symm)) o6;have m1:=(N9 B4.out hgrow U7 neS) 2 _ rfl;have m2:=(Af O4.out hgrow U7 neS) 2;have b5r:=hb5.trans ((a4U.trans (R.mono O0)).mono hb5.size);have HST:=U0 (nY (y:=⟨d_ m,ls.map (Vm s.wd),o⟩) U.out (Vd _) b5r (own_below HV5.out (a4U.trans (R.mono O0))) hown hgrow);obtain ⟨P,hPe⟩:∃ P,P=s.rs++[⟨d_ m,ls.map (Vm s.wd),o⟩]:=⟨_,rfl⟩;have hPl:s.rs.length+1=P.length:=by rw [hPe];simp
               rw [<- hPe,hPl] at HST;rw [<- hPe] at HPR;rw [hPl];have d:=HST;clear hown hgrow HST hPe hPl neS b5r;simp only [Bool.true_and,jy] at O;cases b'
               all_goals first
               |(have r:=U0 (iL F.out HRK.out O.out)
                 obtain ⟨p0,p1,p2,o0,o1,o2,e0,e1,l,z⟩:=kx vO vN vN X.out W.out d.out.bw (V.trans (d.out.bw.mono O0));go_wp2;refine Y6 (v:=.tuple #[.agg #[vO,vN,vN],vI 3]) (by simp [results,results145,go_sem,e0,e1,l]) rfl ⟨Fe r.out,z⟩)
               |(by_cases a4l:300<g.length
                 · have r:=U0 (Dx F.out HRK.out O.out HPR.out (.inl a4l));have a5U:(300:Int)<g.length:=O0;have k1:=d.out.bl 1 _ rfl;have k2':=d.out.bl 2 _ rfl;obtain ⟨p0,p1,p2,o0,o1,o2,e0,e1,l,z⟩:=kx vO vN vN X.out W.out d.out.bw (V.trans (d.out.bw.mono O0));go_wp2;refine Y6 (v:=.tuple #[.agg #[vO,vN,vN],vI 4]) (by simp [results,results145,go_sem,e0,e1,l]) rfl ⟨Fe r.out,z⟩
                 · by_cases a4o:150<P.length
                   · have r:=U0 (Dx F.out HRK.out O.out HPR.out (.inr a4o));have n300:¬ (300:Int)<g.length:=O0;have a5V:(150:Int)<P.length:=O0;have k1:=d.out.bl 1 _ rfl;have k2':=d.out.bl 2 _ rfl;obtain ⟨p0,p1,p2,o0,o1,o2,e0,e1,l,z⟩:=kx vO vN vN X.out W.out d.out.bw (V.trans (d.out.bw.mono O0));go_wp2;refine Y6 (v:=.tuple #[.agg #[vO,vN,vN],vI 4]) (by simp [results,results145,go_sem,e0,e1,l]) rfl ⟨Fe r.out,z⟩
                   · have r:=U0 (uJ F.out HRK.out O.out HPR.out a4l a4o);have n300:¬ (300:Int)<g.length:=O0;have n150:¬ (150:Int)<P.length:=O0;have k0:=d.out.bl 0 _ rfl;have k1:=d.out.bl 1 _ rfl;have k2':=d.out.bl 2 _ rfl;obtain ⟨p0,p1,p2,o0,o1,o2,e0,e1,l,z⟩:=kx (vI s.wd) (vL (some ⟨I,0,none⟩) g.length L) (vL a6 P.length a4m) X.out W.out d.out.bw (V.trans (d.out.bw.mono O0));have HSO:=U0 (ky (vI s.wd) (vL (some ⟨I,0,none⟩) g.length L) (vL a6 P.length a4m) d.out);have HIK:=U0 (OB r.out HSO.out);go_wp2;refine Y6 (v:=.tuple #[.agg #[vI s.wd,vL (some ⟨I,0,none⟩) g.length L,vL a6 P.length a4m],vO]) (by simp [results,results145,go_sem,e0,e1,l]) rfl ⟨HIK.out,z⟩)
             · have HPR:Hid (Hf s.rs (qh s.wd m ls c t)=s.rs):=by
                show Hf _ _=_;unfold Hf;rw [X7 (hmem.1 rfl)]
               clear hmem;have d:=Z;have kA2:=d.out.bl 2 _ rfl;simp only [Bool.true_and,jy] at O;cases b'
               all_goals first
               |(have r:=U0 (iL F.out HRK.out O.out)
                 obtain ⟨p0,p1,p2,o0,o1,o2,e0,e1,l,z⟩:=kx vO vN vN X.out W.out d.out.bw (V.trans (d.out.bw.mono O0));go_wp2;refine Y6 (v:=.tuple #[.agg #[vO,vN,vN],vI 3]) (by simp [results,results145,go_sem,e0,e1,l]) rfl ⟨Fe r.out,z⟩)
               |(by_cases a4l:300<g.length
                 · have r:=U0 (Dx F.out HRK.out O.out HPR.out (.inl a4l));have a5U:(300:Int)<g.length:=O0;have k1:=d.out.bl 1 _ rfl;have k2':=d.out.bl 2 _ rfl;obtain ⟨p0,p1,p2,o0,o1,o2,e0,e1,l,z⟩:=kx vO vN vN X.out W.out d.out.bw (V.trans (d.out.bw.mono O0));go_wp2;refine Y6 (v:=.tuple #[.agg #[vO,vN,vN],vI 4]) (by simp [results,results145,go_sem,e0,e1,l]) rfl ⟨Fe r.out,z⟩
                 · by_cases a4o:150<s.rs.length
                   · have r:=U0 (Dx F.out HRK.out O.out HPR.out (.inr a4o));have n300:¬ (300:Int)<g.length:=O0;have a5V:(150:Int)<s.rs.length:=O0;have k1:=d.out.bl 1 _ rfl;have k2':=d.out.bl 2 _ rfl;obtain ⟨p0,p1,p2,o0,o1,o2,e0,e1,l,z⟩:=kx vO vN vN X.out W.out d.out.bw (V.trans (d.out.bw.mono O0));go_wp2;refine Y6 (v:=.tuple #[.agg #[vO,vN,vN],vI 4]) (by simp [results,results145,go_sem,e0,e1,l]) rfl ⟨Fe r.out,z⟩
                   · have r:=U0 (uJ F.out HRK.out O.out HPR.out a4l a4o);have n300:¬ (300:Int)<g.length:=O0;have n150:¬ (150:Int)<s.rs.length:=O0;have k0:=d.out.bl 0 _ rfl;have k1:=d.out.bl 1 _ rfl;have k2':=d.out.bl 2 _ rfl;obtain ⟨p0,p1,p2,o0,o1,o2,e0,e1,l,z⟩:=kx (vI s.wd) (vL (some ⟨I,0,none⟩) g.length L) (vL C s.rs.length q) X.out W.out d.out.bw (V.trans (d.out.bw.mono O0));have HSO:=U0 (ky (vI s.wd) (vL (some ⟨I,0,none⟩) g.length L) (vL C s.rs.length q) d.out);have HIK:=U0 (OB r.out HSO.out);go_wp2;refine Y6 (v:=.tuple #[.agg #[vI s.wd,vL (some ⟨I,0,none⟩) g.length L,vL C s.rs.length q],vO]) (by simp [results,results145,go_sem,e0,e1,l]) rfl ⟨HIK.out,z⟩)
