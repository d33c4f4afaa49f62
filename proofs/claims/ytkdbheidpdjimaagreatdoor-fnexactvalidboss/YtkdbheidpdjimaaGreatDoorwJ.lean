import Derived.Test.YtkdbheidpdjimaaGreatDoorR5
import Derived.Test.YtkdbheidpdjimaaGreatDoorwH
set_option maxHeartbeats 8000000
set_option maxRecDepth 100000
set_option linter.unusedVariables false
namespace Go.Proofs.YtkdbheidpdjimaaGreatDoor
open Proofs.Tryz Go.RowKit
variable {w w':World} {b:Nat} {m:MS} {vs:List Value} {es:LB} {W cd:Int}
def tZ (w:World) (b:Nat) (m:MS) (vs:List Value):Prop:=GZ m/\∃ fa fc ta tc ra rc,vs=[.int .i64 0,.int .i64 m.ep,.slice fa m.fs.length fc,.int .i64 m.s.wd,.slice ta m.s.ts.length tc,.slice ra m.s.rs.length rc]/\T.Qs b w fa m.fs/\Jd w b m.s.ts m.s.rs (.slice ta m.s.ts.length tc) (.slice ra m.s.rs.length rc)
def Rp7 (w:World) (es:LB) (W:Int) (e:Ending) (w':World):Prop:=∃ vs,e=.returned (.agg vs.toArray)/\((¬ Dw es W/\vs=[.int .i64 1,.int .i64 0,.slice none 0 0,.int .i64 0,.slice none 0 0,.slice none 0 0])\/(Dw es W/\∃ o,dG RE es (pW W) o/\((o=none/\vs=[.int .i64 2,.int .i64 0,.slice none 0 0,.int .i64 0,.slice none 0 0,.slice none 0 0])\/∃ m,o=some m/\tZ w' w.heap.size m vs)))
theorem tZ.keep {b':Nat} (h:tZ w b m vs) (d:w.heap.size<=w'.heap.size) (a:∀ q t,Gf w q t->t≠62->w'.heap[q]?=w.heap[q]?) (c:b'<=b):tZ w' b' m vs:=by
 obtain ⟨h0,fa,fc,ta,tc,ra,rc,h1,h2,f⟩:=h;exact ⟨h0,fa,fc,ta,tc,ra,rc,h1,Vq h2 d (fun q e=>a q 99 e O6) c,Ut (Xq f (fun q t hT ht=>a q t hT (by rcases ht with rfl | rfl | rfl <;> decide))) c⟩
theorem xP {u z:World} {a:Array Value} (hc:Cl u w.heap.size 62 [.int .i64 0,.int .i64 0,.slice none 0 0,.int .i64 0,.slice none 0 0,.slice none 0 0]) (g:Cl z w.heap.size 62 vs) (b:vF w.heap.size u z) (d:Bw w u) (hl:vs.length=6) (c:a.getD 4 undef=.pointer (some ⟨w.heap.size,0,none⟩)) (f:∀ z:World,u.heap.size<=z.heap.size->(∀ q t,Gf u q t->t≠62->z.heap[q]?=u.heap[q]?)->Rp7 w es W (.returned (.agg vs.toArray)) z):bodyPost prog f35 (fun e w'=>Rp7 w es W e w'/\Bw w w') .ret ⟨a,[]⟩ z:=
 P7 (v:=.agg vs.toArray) (b_ (P:=prog) (ty:=62) rfl a z w.heap.size vs _ c g.blk underlying62 rfl (by rw [hl];kernel_rfl)) rfl ⟨f z (jq b.size.symm) (fun q t hT ht=>b.block q (fun e=>ht (X8 (e▸hT) (Qb hc)))),d.trans (b.below x9)⟩
theorem c35 (a:OA) (cap:Nat) (es:LB) (W:Int) (w:World) (hl:es.length<=1048576) (hs:∀ i,(es.getD i ByteArray.empty).size<=1048576) (hat:y8 w a es) (hmx:Tc w):
 Calls prog 35 #[.slice a es.length cap,.int .i64 W] w fun e w'=>Rp7 w es W e w'/\Bw w w':=by
 have HAT:=U0 hat;have HSZ:=U0 hs;have HMX:=U0 hmx;clear hat hs hmx;go_enter func35,ntmps35
 go_upto_region 1 with fail
 obtain ⟨V,hV⟩:∃ V:World,V=w.alloc (.cells #[vO,vO,vN,vO,vN,vN] 62):=⟨_,rfl⟩;rw [<- hV];have P:Bw w V:=by rw [hV];exact o7
 have q:Hid (Cl V w.heap.size 62 [vO,vO,vN,vO,vN,vN]):=by show Cl _ _ _ _;rw [hV];exact G6 w [vO,vO,vN,vO,vN,vN] 62
 have C:V.heap.size=w.heap.size+1:=by rw [hV];simp
 have HZ:=U0 C;clear hV C;have A:Hid (∀ v∈([vI 1,vO,vN,vO,vN,vN]:List Value),v.oneCell'=true):=Cj rfl rfl rfl rfl rfl rfl;by_cases hw:1<=W/\W<=8;rotate_left
 · have HBD:Hid (¬ Dw es W):=fun h=>hw h.1;have hd:=P9 hw
   go_wp2_with fail
   refine (c67 W V).mono ?_;rintro e V1 ⟨rfl,hv1⟩;obtain rfl:=hv1.symm;rw [hd]
   go_wp2_with (refine Z8 rfl 62 _ _ rfl (B:=w.heap.size) (j:=0) rfl (vs:=[vI 1,vO,vN,vO,vN,vN]) rfl q.out x9 A.out J3 ?_;intro z g d)
   exact xP q.out g d P rfl rfl (fun z _ _=>⟨_,rfl,.inl ⟨HBD.out,rfl⟩⟩)
 have hd:=y_ hw
 go_wp2_with fail
 refine (c67 W V).mono ?_;rintro e V1 ⟨rfl,hv1⟩;obtain rfl:=hv1.symm;rw [hd];by_cases hbig:1000<es.length
 · have HBD:Hid (¬ Dw es W):=fun h=>by have:=h.2;omega
   have c:(1000:Int)<es.length:=O0
   go_wp2_with (refine Z8 rfl 62 _ _ rfl (B:=w.heap.size) (j:=0) rfl (vs:=[vI 1,vO,vN,vO,vN,vN]) rfl q.out x9 A.out J3 ?_;intro z g d)
   exact xP q.out g d P rfl rfl (fun z _ _=>⟨_,rfl,.inl ⟨HBD.out,rfl⟩⟩)
 have c:¬ (1000:Int)<es.length:=O0;have HIN:Hid (Dw es W):=⟨hw,O0⟩
 go_upto_region 3 with fail
 go_wp2_with fail
 refine (c68 ⟨W,[],[]⟩ none none 0 0 V (Yq hw) (gQ (Yq hw)) ⟨.inl rfl,.inl rfl⟩ (G9 HMX.out P)).mono ?_;rintro e y ⟨⟨H,bT,bR,bP,rv,rfl,hsh⟩,o⟩;have HSH:=U0 hsh;have b2:=G7 P o;have r:=U0 (q.out.below o q.out.lt);have hV2:w.heap.size+1<=y.heap.size:=by have:=o.size;have:=HZ.out;omega
 have HVB:=U0 (jq HZ.out.symm);clear hsh o q hd
 go_upto_region 4 with fail
 obtain ⟨U,O⟩:∃ U:World,U=y.alloc (.cells #[vO,vN,.pointer (some (aA H 0))] 130):=⟨_,rfl⟩;rw [<- O];have Q:Bw y U:=by rw [O];exact o7
 have HI:Hid (ImM (w.heap.size+1) y.heap.size (pW W) U):=by
  refine ⟨none,0,H,V.heap.size,bT,bR,bP,rv,a0i hw,?_,⟨.inl rfl,.inl rfl⟩,HSH.out.below' Q,HVB.out,hV2⟩;rw [O];exact G6 y [_,_,_] 130
 have CU:=U0 (r.out.below Q r.out.lt);have HB:=U0 (G7 b2 Q);clear O Q r b2 HSH c;generalize y.heap.size=R at*
 go_wp2_with fail
 go_loopw [25] (fun i wr=>∃ (k:Nat) (f:Nat->p_) (m:MS),i=.int .i64 k/\k<=es.length/\Hid (∀ j,j<k->RE (eL es j) (f j) true)/\Hid (rn f (pW W) k=some m)/\Hid (Below w.heap.size w wr)/\Hid (Cl wr w.heap.size 62 [.int .i64 0,.int .i64 0,.slice none 0 0,.int .i64 0,.slice none 0 0,.slice none 0 0])/\Hid (ImM (w.heap.size+1) R m wr)) (fun i _=>es.length - (intOf i).toNat)
 case atStart=>exact ⟨0,fun _=>Ii,_,rfl,D5 _,fun j h=>absurd h (o9 _),rfl,HB,CU,HI⟩
 obtain ⟨k,f,m,rfl,hk,I,F,L,J,X⟩:=hrel;clear HI CU HB;by_cases N:k<es.length;rotate_left
 · obtain rfl:k=es.length:=O0;obtain ⟨fa,fc,H1,t,bT1,bR1,bP1,rv1,E⟩:=X.out;have bd:Bw wr wr.drew:=(Z4 _ _).drew;have n:=U0 (E.below bd);have CD:=U0 (J.out.below bd J.out.lt);have BD:=U0 (G7 L.out bd);clear E X
   go_upto_region 11 with fail
   refine wp_region_held_drew (S:=fun u=>u.cell? (aA R 0)=some (vI m.ep)/\u.cell? (aA R 1)=some (vL fa m.fs.length fc)/\u.cell? (aA R 2)=some (.pointer (some (aA H1 0)))) J3 ⟨n.out.cr.cell 0,n.out.cr.cell 1,n.out.cr.cell 2⟩ fun hH=>?_;refine Y0 0 ?_;refine Y0 1 ?_;refine Y0 2 ?_;refine Y0 3 ?_;refine Y0 4 ?_;refine Y0 5 ?_;have a5x:=U0 (c71 t H1 bT1 bR1 bP1 m.s.wd m.s.ts m.s.rs rv1 wr.drew n.out.sh n.out.ok.st.1 (Q7 n.out.ok.st.2.1.1 O6) (Q7 n.out.ok.st.2.2.1 O6) (fun i=>Q7 (dL n.out.ok.st i) O6));refine rq 6 fun K D=>?_;go_simp;refine a5x.out.mono ?_;rintro e Z ⟨⟨ta,tc,ra,rc,rfl,hso⟩,c⟩;have l:=U0 (n.out.below c);have p:=U0 (CD.out.below c CD.out.lt);have B1w:=U0 (G7 BD.out c);have HSO:=U0 hso;clear a5x hso c hH;refine J8 D ⟨l.out.cr.cell 0,l.out.cr.cell 1,l.out.cr.cell 2⟩ fun hH=>?_;clear D K;refine Y0 7 ?_;refine rq 8 fun K D=>?_;refine Ik rfl 62 _ _ rfl (B:=w.heap.size) (j:=0) rfl (vs:=[vO,vI m.ep,vL fa m.fs.length fc,vI m.s.wd,vL ta m.s.ts.length tc,vL ra m.s.rs.length rc]) rfl p.out x9 (Cj rfl rfl rfl rfl rfl rfl) J3 ?_;intro z g d;have CZ:=U0 g;have OZ:=U0 d;have hRR:R≠w.heap.size:=by have:=l.out.hR;omega
   have c3:=l.out.cr.on d hRR;clear hH g d;refine J8 D ⟨c3.cell 0,c3.cell 1,c3.cell 2⟩ fun hH=>?_;clear D K c3;refine wdn ?_;clear hH
   go_wp2_with fail
   have HME:Hid (tZ Z w.heap.size m [vO,vI m.ep,vL fa m.fs.length fc,vI m.s.wd,vL ta m.s.ts.length tc,vL ra m.s.rs.length rc]):=⟨l.out.ok,fa,fc,ta,tc,ra,rc,rfl,Vq l.out.nf x9 (fun _ _=>rfl) O0,Ut HSO.out BD.out.size⟩;exact xP p.out CZ.out OZ.out B1w.out rfl rfl (fun z hz1 hz2=>⟨_,rfl,.inr ⟨HIN.out,_,jR I.out F.out,.inr ⟨m,rfl,HME.out.keep hz1 hz2 x9⟩⟩⟩)
 obtain ⟨b,off,hst⟩:=Q_ (Z5 HAT.out L.out);obtain ⟨rfl,hbw,hce⟩:=Nc hst N;have hc0:=hce k N;clear hce;have HRD:=U0 (c69 (es.getD k ByteArray.empty) wr (HSZ.out k) (G9 HMX.out L.out));have HEL:Hid ((es.getD k ByteArray.empty).data.toList=eL es k):=rfl;generalize es.getD k ByteArray.empty=s at*
 go_upto_region 7 with fail
 go_wp2_with fail
 refine HRD.out.mono ?_;rintro e Z ⟨hx,c⟩;rw [HEL.out] at hx;obtain ⟨fa,fc,H1,t,bT1,bR1,bP1,rv1,E⟩:=X.out;have l:=U0 (E.below c);have t:=U0 (G7 L.out c);have p:=U0 (J.out.below c J.out.lt);clear HRD E X hc0 J L c;rcases hx with ⟨rfl,C⟩ | ⟨x,ai,ci,rfl,hx,_,hxl,hlk⟩
 · have HBAD:=U0 (C Ii);have A:Hid (∀ v∈([vI 2,vO,vN,vO,vN,vN]:List Value),v.oneCell'=true):=Cj rfl rfl rfl rfl rfl rfl;clear C
   go_wp2_with (refine Z8 rfl 62 _ _ rfl (B:=w.heap.size) (j:=0) rfl (vs:=[vI 2,vO,vN,vO,vN,vN]) rfl p.out x9 A.out J3 ?_;intro z g d)
   exact xP p.out g d t.out rfl rfl (fun z _ _=>⟨_,rfl,.inr ⟨HIN.out,_,JW N I.out F.out HBAD.out,.inl ⟨rfl,rfl⟩⟩⟩)
 have HX:=U0 hx;have HCD:=U0 (c70 (w.heap.size+1) R m x ai ci Z ⟨_,_,_,_,_,_,_,_,l.out⟩ (Q7 (Nat.succ_le_of_lt p.out.lt) x9) (G9 HMX.out t.out) (hx.1 rfl).1 hxl hlk.at');clear hx hxl hlk;generalize zU x ai ci=xv at*
 go_upto_region 8 with fail
 go_wp2_with fail
 refine HCD.out.mono ?_;rintro e w2 ⟨⟨rfl,hm2⟩,o⟩;have HM2:=U0 hm2;have r:=U0 (p.out.below o O0);have B2:=U0 (t.out.trans (o.mono O0));clear HCD hm2 o p t l
 cases hd:dn m x with
 | none=>
  have Y:=U0 hd;have A:Hid (∀ v∈([vI 2,vO,vN,vO,vN,vN]:List Value),v.oneCell'=true):=Cj rfl rfl rfl rfl rfl rfl;clear hd HM2
  go_wp2_with (refine Z8 rfl 62 _ _ rfl (B:=w.heap.size) (j:=0) rfl (vs:=[vI 2,vO,vN,vO,vN,vN]) rfl r.out x9 A.out J3 ?_;intro z g d)
  exact xP r.out g d B2.out rfl rfl (fun z _ _=>⟨_,rfl,.inr ⟨HIN.out,_,yP N I.out F.out HX.out Y.out,.inl ⟨rfl,rfl⟩⟩⟩)
 | some m'=>
  have Y:=U0 hd;have HMM:=U0 (HM2.out m' hd);clear hd HM2;go_wp2;go_roundw
  case rel=>exact ⟨k+1,upd f k x,m',by go_num,O0,(Gx I.out F.out HX.out Y.out).1,(Gx I.out F.out HX.out Y.out).2,B2,r,HMM⟩
  case measure=>simp [intOf];omega
structure YZ (m:MS):Prop where
 fl:m.fs.length<=40
 tl:m.s.ts.length<=300
 rl:m.s.rs.length<=150
 gl:∀ i,(m.s.rs.getD i g_).gs.length<=1000
 gz:Xx m.s.rs<=150000
def Rd (w:World) (cd:Int) (m:MS) (vs:List Value):Prop:=∃ fa fc ta tc ra rc,vs=[.int .i64 cd,.int .i64 m.ep,.slice fa m.fs.length fc,.int .i64 m.s.wd,.slice ta m.s.ts.length tc,.slice ra m.s.rs.length rc]/\T.J6 w fa m.fs/\Zg w ta ra m.s
def Me (w:World) (b:Nat) (cd:Int) (m:MS) (vs:List Value):Prop:=∃ fa fc ta tc ra rc,vs=[.int .i64 cd,.int .i64 m.ep,.slice fa m.fs.length fc,.int .i64 m.s.wd,.slice ta m.s.ts.length tc,.slice ra m.s.rs.length rc]/\T.Qs b w fa m.fs/\Jd w b m.s.ts m.s.rs (.slice ta m.s.ts.length tc) (.slice ra m.s.rs.length rc)
def DW:MS:=⟨0,[],⟨0,[],[]⟩⟩
def Out (R:List UInt8->p_->Bool->Prop) (es:LB) (W:Int) (cd:Int) (m:MS):Prop:=YZ m/\((¬ Dw es W/\cd=1/\m=DW)\/(Dw es W/\∃ o,dG R es (pW W) o/\((o=none/\cd=2/\m=DW)\/(o=some m/\cd=0))))
theorem PU {c:Int} {m':MS} (h:Out RES es W cd m) (a:Out RE es W c m'):c=cd/\m'=m:=by
 obtain ⟨_,h⟩:=h;obtain ⟨_,a⟩:=a;rcases h with ⟨h1,rfl,rfl⟩ | ⟨h1,o,h2,e⟩
 · rcases a with ⟨_,rfl,rfl⟩ | ⟨k,_⟩
   · exact ⟨rfl,rfl⟩
   exact absurd k h1
 rcases a with ⟨k,_⟩ | ⟨_,o',d,b⟩
 · exact absurd h1 k
 have:=OX h2 d;subst this;rcases e with ⟨rfl,rfl,rfl⟩ | ⟨rfl,rfl⟩
 · rcases b with ⟨_,rfl,rfl⟩ | ⟨k,_⟩
   · exact ⟨rfl,rfl⟩
   cases k
 rcases b with ⟨k,_⟩ | ⟨k,rfl⟩
 · cases k
 exact ⟨rfl,(Q9 k).symm⟩
theorem xX (rs:List R3) (h:∀ x∈rs,x.gs.length<=1000):Xx rs<=rs.length*1000:=by
 induction rs with
 | nil=>decide
 | cons x r ih=>
  have:=ih (fun y a=>h y (ug _ a));have hx:=h x (Gq ..);unfold Xx at this ⊢;simp only [Cm,List.sum_cons,A_];omega
theorem FP (h:GZ m):YZ m:=by
 have h1:=h.st.2.1.1;have h2:=h.st.2.2.1;have a:=dL h.st;refine ⟨h.fl,h1,h2,a,Q7 (xX _ (fun x hx=>?_)) O0⟩;obtain ⟨i,b,rfl⟩:=Ee hx;have:=a i
 rwa [show m.s.rs.getD i g_=m.s.rs[i] from by simp [List.getD,b]] at this
theorem uK:YZ DW:=⟨O6,O6,O6,fun i=>by show (0:Nat)<=1000;omega,O6⟩
theorem a0k (w:World) (b:Nat) (cd:Int):Me w b cd DW [.int .i64 cd,.int .i64 0,.slice none 0 0,.int .i64 0,.slice none 0 0,.slice none 0 0]:=⟨none,0,none,0,none,0,rfl,⟨.inl rfl,.inl rfl⟩,Gp _ _⟩
theorem Me.rd (h:Me w b cd m vs):Rd w cd m vs:=by
 obtain ⟨fa,fc,ta,tc,ra,rc,h1,h2,a⟩:=h;exact ⟨fa,fc,ta,tc,ra,rc,h1,h2.1,iy a⟩
theorem Rd.below (h:Rd w cd m vs) (a:Bw w w'):Rd w' cd m vs:=by
 obtain ⟨fa,fc,ta,tc,ra,rc,h1,h2,b⟩:=h;exact ⟨fa,fc,ta,tc,ra,rc,h1,T.U5 h2 a,b.below a⟩
theorem Me.keep (h:Me w b cd m vs) (c:w.heap.size<=w'.heap.size) (d:∀ q,b<=q->q<w.heap.size->w'.heap[q]?=w.heap[q]?):Me w' b cd m vs:=by
 obtain ⟨fa,fc,ta,tc,ra,rc,h1,h2,a⟩:=h;refine ⟨fa,fc,ta,tc,ra,rc,h1,?_,a.keep d⟩;obtain ⟨hf,h⟩:=h2;rcases h with h0 | ⟨g,rfl,f,ho,ht⟩
 · exact ⟨.inl h0,.inl h0⟩
 have e:=d g f ho.1;refine ⟨?_,.inr ⟨g,rfl,f,⟨m_ ho.1 c,fun j k=>by rw [Xl e];exact ho.2.1 j k,fun j=>by rw [KQ e];exact ho.2.2 j⟩,?_⟩⟩
 · rcases hf with h0 | ⟨b,off,h1,h2,a⟩
   · exact .inl h0
   injection h1 with h1;injection h1 with h1 h4;subst h1 h4;exact .inr ⟨g,0,rfl,m_ h2 c,fun i l=>by rw [Xl e,Xl e];exact a i l⟩
 obtain ⟨cur,fr,hc⟩:=ht;exact ⟨cur,fr,e.trans hc⟩
theorem a0M (a:OA) (c:Nat) (es:LB) (W:Int) (w:World) (hl:es.length<=1048576) (d:∀ i,(es.getD i ByteArray.empty).size<=1048576) (j:y8 w a es) (f:Tc w):
 Calls prog 35 #[.slice a es.length c,.int .i64 W] w fun e w'=>(∃ cd m vs,e=.returned (.agg vs.toArray)/\Out RE es W cd m/\Me w' w.heap.size cd m vs)/\Bw w w':=by
 refine (c35 a c es W w hl d j f).mono ?_;rintro e w' ⟨⟨vs,rfl,h⟩,g⟩;refine ⟨?_,g⟩;rcases h with ⟨h1,rfl⟩ | ⟨h1,o,h2,b⟩
 · exact ⟨1,DW,_,rfl,⟨uK,.inl ⟨h1,rfl,rfl⟩⟩,a0k _ _ _⟩
 rcases b with ⟨rfl,rfl⟩ | ⟨m,rfl,b⟩
 · exact ⟨2,DW,_,rfl,⟨uK,.inr ⟨h1,_,h2,.inl ⟨rfl,rfl,rfl⟩⟩⟩,a0k _ _ _⟩
 obtain ⟨h0,k⟩:=b;exact ⟨0,m,_,rfl,⟨FP h0,.inr ⟨h1,_,h2,.inr ⟨rfl,rfl⟩⟩⟩,k⟩
def CW (b:Bs) (m:MS):Prop:=1<=b.ep/\b.ep=m.ep/\b.fs=m.fs/\b.s=m.s
theorem a0e (h:YZ m):m.s.ts.length<=1048576/\m.s.rs.length<=1048576/\∀ i,(m.s.rs.getD i g_).gs.length<=1048576:=⟨Q7 h.tl O6,Q7 h.rl O6,fun i=>Q7 (h.gl i) O6⟩
theorem c38 (b:Bs) (q:Ba) (cd:Int) (m:MS) (fa ta ra:OA) (fc tc rc:Nat) (w:World) (hl:Bo b 1048576) (hm:YZ m) (A:Dn w b q) (hf:T.J6 w fa m.fs) (y:Zg w ta ra m.s):
 Calls prog 38 #[.agg (bsV b q).toArray,.agg #[.int .i64 cd,.int .i64 m.ep,.slice fa m.fs.length fc,.int .i64 m.s.wd,.slice ta m.s.ts.length tc,.slice ra m.s.rs.length rc]] w fun e w'=>Rb (CW b m) e/\Bw w w':=by
 have H:=U0 A;have F:=U0 hl;have E:=U0 hm;have L:=U0 hf;have K:=U0 y;clear A hl hm hf y;go_enter func38,ntmps38
 go_upto_region 1 with fail
 have d:=U0 (Oa (G6 w (bsV b q) 48) (.cells #[vI cd,vI m.ep,vL fa m.fs.length fc,vI m.s.wd,vL ta m.s.ts.length tc,vL ra m.s.rs.length rc] 62));have c:Hid (Cl ((w.alloc (.cells (bsV b q).toArray 48)).alloc (.cells #[vI cd,vI m.ep,vL fa m.fs.length fc,vI m.s.wd,vL ta m.s.ts.length tc,vL ra m.s.rs.length rc] 62)) (w.heap.size+1) 62 [vI cd,vI m.ep,vL fa m.fs.length fc,vI m.s.wd,vL ta m.s.ts.length tc,vL ra m.s.rs.length rc]):=by show Cl _ _ _ _;have h:=G6 (w.alloc (.cells (bsV b q).toArray 48)) [vI cd,vI m.ep,vL fa m.fs.length fc,vI m.s.wd,vL ta m.s.ts.length tc,vL ra m.s.rs.length rc] 62;simpa using h
 have f:Hid (Bw w ((w.alloc (.cells (bsV b q).toArray 48)).alloc (.cells #[vI cd,vI m.ep,vL fa m.fs.length fc,vI m.s.wd,vL ta m.s.ts.length tc,vL ra m.s.rs.length rc] 62))):=o7.alloc I4 _;generalize (w.alloc (.cells (bsV b q).toArray 48)).alloc (.cells #[vI cd,vI m.ep,vL fa m.fs.length fc,vI m.s.wd,vL ta m.s.ts.length tc,vL ra m.s.rs.length rc] 62)=V at*;have D:=d.out.cell 3;have C:=d.out.cell 7;have l:=d.out.cell 8;have k:=d.out.cell 9;have n:=d.out.cell 10;simp only [@gz Value] at D C l k n;have t:=c.out.cell 1;have B:=c.out.cell 2;have j:=c.out.cell 3;have i:=c.out.cell 4;have g:=c.out.cell 5;simp only [@gz Value] at t B j i g;by_cases h1:1<=b.ep;rotate_left
 · have o:Hid (¬ CW b m):=fun h=>h1 h.1;go_wp2;go_ret;exact ⟨G5 o.out,f.out⟩
 by_cases h2:b.ep=m.ep;rotate_left
 · have o:Hid (¬ CW b m):=fun h=>h2 h.2.1;go_wp2;go_ret;exact ⟨G5 o.out,f.out⟩
 rw [<- h2] at t
 go_wp2_with fail
 refine (c76 b.fs m.fs q.fa fa q.fc fc V F.out.fl (Q7 E.out.fl O6) (T.U5 H.out.fs f.out) (T.U5 L.out f.out)).mono ?_;rintro e I ⟨⟨u,rfl,a⟩,p⟩;have x:=U0 (d.out.below p d.out.lt);have v:=U0 (c.out.below p c.out.lt);have r:=U0 (G7 f.out p);clear p D C l k n t B j i g d c f
 cases u with
 | false=>
  have o:Hid (¬ CW b m):=fun h=>by have:=a.2 h.2.2.1;cases this
  clear a;go_wp2;go_ret;exact ⟨G5 o.out,r.out⟩
 | true=>
 have J:=U0 (a.1 rfl);clear a;have l:=x.out.cell 8;have k:=x.out.cell 9;have n:=x.out.cell 10;simp only [@gz Value] at l k n;have j:=v.out.cell 3;have i:=v.out.cell 4;have g:=v.out.cell 5;simp only [@gz Value] at j i g
 go_wp2_with fail
 refine (c73 b.s m.s q.ta q.ra ta ra q.tc q.rc tc rc I (IU F.out.st) (a0e E.out) (H.out.st.below r.out) (K.out.below r.out)).mono ?_;rintro e w2 ⟨⟨u,rfl,a⟩,z⟩;have O:=U0 (G7 r.out z);have N:Hid (u=true↔CW b m):=⟨fun h=>⟨h1,h2,J.out,a.1 h⟩,fun h=>a.2 h.2.2.2⟩;clear a z l k n j i g;go_wp2;go_ret;exact ⟨⟨_,rfl,N.out⟩,O.out⟩
theorem FZ {fa ta ra:OA} {fc tc rc:Nat} (h:Me w b cd m [.int .i64 cd,.int .i64 m.ep,.slice fa m.fs.length fc,.int .i64 m.s.wd,.slice ta m.s.ts.length tc,.slice ra m.s.rs.length rc]):Kp b w fun u=>T.J6 u fa m.fs/\Zg u ta ra m.s:=fun u a c=>by
 obtain ⟨_,_,_,_,_,_,e,f,d⟩:=(h.keep a c).rd;simp at e;obtain ⟨⟨rfl,rfl⟩,⟨rfl,rfl⟩,rfl,rfl⟩:=e;exact ⟨f,d⟩
theorem a0B (a:OA) (b:Nat) (es:LB) (W:Int) (w:World) (hl:es.length<=1048576) (c:∀ i,(es.getD i ByteArray.empty).size<=1048576) (g:y8 w a es) (d:Tc w):
 Calls prog 35 #[.slice a es.length b,.int .i64 W] w fun e w'=>(∃ cd m fa fc ta tc ra rc,e=.returned (.agg #[.int .i64 cd,.int .i64 m.ep,.slice fa m.fs.length fc,.int .i64 m.s.wd,.slice ta m.s.ts.length tc,.slice ra m.s.rs.length rc])/\Out RE es W cd m/\Kp w.heap.size w' fun u=>T.J6 u fa m.fs/\Zg u ta ra m.s)/\Bw w w':=by
 refine (a0M a b es W w hl c g d).mono ?_;rintro e w' ⟨⟨cd,m,vs,rfl,h1,h2⟩,f⟩;have h:=h2;obtain ⟨fa,fc,ta,tc,ra,rc,rfl,_,_⟩:=h2;exact ⟨⟨cd,m,fa,fc,ta,tc,ra,rc,rfl,h1,FZ h⟩,f⟩
theorem a1M (a:OA) (k:Nat) (es:LB) (W:Int) (w:World) (hl:es.length<=1048576) (f:∀ i,(es.getD i ByteArray.empty).size<=1048576) (p:y8 w a es):
 Calls prog 18 #[.slice a es.length k,.int .i64 W] w fun e w'=>(∃ cd m fa fc ta tc ra rc,e=.returned (.agg #[.int .i64 cd,.int .i64 m.ep,.slice fa m.fs.length fc,.int .i64 m.s.wd,.slice ta m.s.ts.length tc,.slice ra m.s.rs.length rc])/\Out RES es W cd m/\Kp w.heap.size w' fun u=>T.J6 u fa m.fs/\Zg u ta ra m.s)/\Bw w w':=by
 refine (c18 a k es W w hl f p).mono ?_;rintro e w' ⟨⟨vs,rfl,h⟩,n⟩;refine ⟨?_,n⟩;rcases h with ⟨h1,rfl⟩ | ⟨h1,o,h2,c⟩
 · exact ⟨1,DW,none,0,none,0,none,0,rfl,⟨uK,.inl ⟨h1,rfl,rfl⟩⟩,fun u _ _=>⟨.inl rfl,.inl rfl,.inl rfl⟩⟩
 rcases c with ⟨rfl,rfl⟩ | ⟨m,rfl,c⟩
 · exact ⟨2,DW,none,0,none,0,none,0,rfl,⟨uK,.inr ⟨h1,_,h2,.inl ⟨rfl,rfl,rfl⟩⟩⟩,fun u _ _=>⟨.inl rfl,.inl rfl,.inl rfl⟩⟩
 obtain ⟨fv,tv,rv,rfl,b,d⟩:=c.ex;obtain ⟨fa,fc,rfl,hf⟩:=wu b;obtain ⟨ta,tc,rfl⟩:=Za d.1;have t:=d;obtain ⟨_,vs0,l⟩:=d;obtain ⟨ra,rc,rfl⟩:=Za l.row;refine ⟨0,m,fa,fc,ta,tc,ra,rc,rfl,⟨FP c.ok,.inr ⟨h1,_,h2,.inr ⟨rfl,rfl⟩⟩⟩,fun u f j=>⟨?_,iy (t.keep j)⟩⟩;have r:=I7 (u':=u) b (fun q g=>j q (P6 b g) (Ef b g));obtain ⟨fa',fc',e,hf⟩:=wu r;injection e with e;subst e;exact hf
structure MT (R:List UInt8->p_->Bool->Prop) (w:World) (b:Bs) (q:Ba) (A:Nat) (cd:Int) (m:MS) (fa ta ra:OA) (fc tc rc:Nat) (u:World):Prop where
 out:Out R (b.sf++b.lo) b.wd cd m
 cm:Cl u A 62 [.int .i64 cd,.int .i64 m.ep,.slice fa m.fs.length fc,.int .i64 m.s.wd,.slice ta m.s.ts.length tc,.slice ra m.s.rs.length rc]
 cb:Cl u w.heap.size 48 (bsV b q)
 fl:T.J6 u fa m.fs
 st:Zg u ta ra m.s
 bel:Bw w u
def Pre (b:Bs):Prop:=(0<=b.now/\b.now<=1000000)/\WZ b.hd b.now
def Upp (b:Bs) (m:MS):Prop:=CW b m/\(0<=b.ed/\b.ed<=1000)/\RH b.rt/\∃ ms,G.Sj b.fs ms/\pF ms b.rn/\SY b
def VM (b:Bs) (m:MS):Prop:=(b.up=true/\Upp b m)\/(b.up=false/\iC b)
theorem c7 (b:Bs) (q:Ba) (w:World) (hl:Bo b 1048576) (hsl:b.sf.length+b.lo.length<=1048576) (hcp:KX b q) (hv:G.Yr w) (hat:Dn w b q):
 Calls prog 7 #[.agg (bsV b q).toArray] w fun e w'=>((e=.returned (.bool false)/\¬ Pre b)\/∃ cd m,Out RE (b.sf++b.lo) b.wd cd m/\Rb (Pre b/\cd=0/\VM b m) e)/\Bw w w':=by
 have J:=U0 hat;have F:=U0 hl;have HV:=U0 hv;have HCP:=U0 hcp;have HES:Hid (∀ i,((b.sf++b.lo).getD i ByteArray.empty).size<=1048576):=fun i=>by
  by_cases h:i<b.sf.length
  · rw [show (b.sf++b.lo).getD i ByteArray.empty=b.sf.getD i ByteArray.empty by simp [List.getD,I_ h]];exact hl.ss i
  · rw [show (b.sf++b.lo).getD i ByteArray.empty=b.lo.getD (i - b.sf.length) ByteArray.empty by simp [List.getD,Cf (Jv h)]];exact hl.ls _
 clear hat hl hv hcp;go_enter func7,ntmps7
 go_upto_region 1 with fail
 have W:=U0 (G6 w (bsV b q) 48);have N:=U0 (o7 (w:=w) (o:=.cells (bsV b q).toArray 48));generalize w.alloc (.cells (bsV b q).toArray 48)=V at*;have a2:=W.out.cell 2;have a11:=W.out.cell 11;simp only [@gz Value] at a2 a11;by_cases h1:b.now<0
 · have U:Hid (¬ Pre b):=fun h=>by have:=h.1.1;omega
   go_wp2;go_ret;exact ⟨.inl ⟨rfl,U.out⟩,N.out⟩
 by_cases h2:1000000<b.now
 · have U:Hid (¬ Pre b):=fun h=>by have:=h.1.2;omega
   go_wp2;go_ret;exact ⟨.inl ⟨rfl,U.out⟩,N.out⟩
 go_wp2_with fail
 refine (c34 q.ha q.hc b.hd b.now V F.out.hl (oh J.out.hd N.out)).mono ?_;rintro e V' ⟨⟨D,rfl,f⟩,hw⟩;obtain rfl:=hw.symm
 cases D with
 | false=>
  have U:Hid (¬ Pre b):=fun h=>by have:=f.2 h.2;cases this
  clear f;go_wp2;go_ret;exact ⟨.inl ⟨rfl,U.out⟩,N.out⟩
 | true=>
 have HPR:Hid (Pre b):=⟨⟨O0,O0⟩,f.1 rfl⟩;clear f a2 a11
 go_upto_region 3 with fail
 go_cut [3] from 4 (fun s3 wx=>∃ A cd m fa ta ra fc tc rc,s3=.pointer (some (aA A 0))/\Hid (MT RE w b q A cd m fa ta ra fc tc rc wx))
 case first=>
  have l:Hid (∀ u,Bw V u->u.cell? (aW w 0)=some (vI b.wd)/\u.cell? (aW w 5)=some (vL q.sa b.sf.length q.sc)/\u.cell? (aW w 6)=some (vL q.la b.lo.length q.lc)):=fun u p=>have h:=W.out.below p W.out.lt;⟨h.cell 0,h.cell 5,h.cell 6⟩
  have bd:Bw V V.drew:=(Z4 _ _).drew;have HCA:Hid (∀ u,Bw V u->Calls prog 36 #[.agg #[.slice q.sa b.sf.length q.sc,.slice q.la b.lo.length q.lc]] u fun e w'=>(∃ a c,e=.returned (vL a (b.sf++b.lo).length c)/\y8 w' a (b.sf++b.lo))/\Bw u w'):=fun u p=>c36 b.sf b.lo q.sa q.la q.sc q.lc u hsl (Z5 J.out.sf (G7 N.out p)) (Z5 J.out.lo (G7 N.out p));have HCB:Hid (∀ u a c,Bw V u->y8 u a (b.sf++b.lo)->Calls prog 35 #[.slice a (b.sf.length+b.lo.length) c,.int .i64 b.wd] u fun e w'=>(∃ cd m fa fc ta tc ra rc,e=.returned (.agg #[vI cd,vI m.ep,vL fa m.fs.length fc,vI m.s.wd,vL ta m.s.ts.length tc,vL ra m.s.rs.length rc])/\Out RE (b.sf++b.lo) b.wd cd m/\Kp u.heap.size w' fun u=>T.J6 u fa m.fs/\Zg u ta ra m.s)/\Bw u w'):=fun u a c p h=>by
   have hc:=a0B a c (b.sf++b.lo) b.wd u (by rw [N9];exact hsl) HES.out h (G9 HV.out.vr.mx (G7 N.out p));rw [N9] at hc;exact hc
  have HMK:Hid (∀ (y z:World) (A:Nat) (cd:Int) (m:MS) (fa ta ra:OA) (fc tc rc:Nat),Bw V y->V.heap.size<=A->vF A y z->Cl z A 62 [vI cd,vI m.ep,vL fa m.fs.length fc,vI m.s.wd,vL ta m.s.ts.length tc,vL ra m.s.rs.length rc]->Out RE (b.sf++b.lo) b.wd cd m->T.J6 z fa m.fs/\Zg z ta ra m.s->MT RE w b q A cd m fa ta ra fc tc rc z):=fun y z A cd m fa ta ra fc tc rc h1 h2 Z Y h5 h6=>by
   have h7:=h1.trans (Z.below h2);exact ⟨h5,Y,W.out.below h7 W.out.lt,h6.1,h6.2,G7 N.out h7⟩
  refine wp_region_held_drew (S:=fun u=>u.cell? (aW w 0)=some (vI b.wd)/\u.cell? (aW w 5)=some (vL q.sa b.sf.length q.sc)/\u.cell? (aW w 6)=some (vL q.la b.lo.length q.lc)) J3 (l.out _ bd) fun hH=>?_;refine Y0 0 ?_;refine Y0 1 ?_;refine Y0 3 ?_;refine Y0 4 ?_;refine wpAnyH_ready (rs:=[2,6]) J3 I4 (AllReadyH.cons (o:=⟨some 22,.call ⟨.value (.func 36),#[.tmp 21],#[38]⟩,22,_,_,none⟩) rfl (fun K d=>?_) (AllReadyH.cons (o:=⟨some 3,.alloc 62,0,_,_,none⟩) rfl (fun K d=>?_) AllReadyH.nil))
  · go_simp;refine (HCA.out _ bd).mono ?_;rintro e X ⟨⟨H,k1,rfl,h1⟩,n⟩;have E:=bd.trans n;have S1:=U0 h1;clear h1 n
    go_wp2_with fail
    refine J8 d (l.out _ E) fun hH=>?_;clear d K;refine wpAnyH_ready (rs:=[5,6]) J3 I4 (AllReadyH.cons (o:=⟨some 25,.call ⟨.value (.func 35),#[.tmp 22,.tmp 24],#[22,3]⟩,62,_,_,none⟩) rfl (fun K d=>?_) (AllReadyH.cons (o:=⟨some 3,.alloc 62,0,_,_,none⟩) rfl (fun K d=>?_) AllReadyH.nil))
    · go_simp;refine (HCB.out X H k1 E S1.out).mono ?_;rintro e P ⟨⟨cd,m,fa,fc,ta,tc,ra,rc,rfl,ho,O⟩,n⟩;have g:=G7 E n;have x:=U0 ho;have HK:=U0 O;clear ho O n
      go_wp2_with fail
      refine J8 d (l.out _ g) fun hH=>?_;clear d K;refine rq 6 fun K d=>?_;go_simp;have L:=U0 (G6 P [vO,vO,vN,vO,vN,vN] 62);have R:Bw V (P.alloc (.cells #[vO,vO,vN,vO,vN,vN] 62)):=g.alloc g.size _;refine J8 d (l.out _ R) fun hH=>?_;clear d K;refine rq 7 fun K d=>?_;refine Ik rfl 62 _ _ rfl (B:=P.heap.size) (j:=0) rfl (vs:=[vI cd,vI m.ep,vL fa m.fs.length fc,vI m.s.wd,vL ta m.s.ts.length tc,vL ra m.s.rs.length rc]) rfl L.out x9 (Cj rfl rfl rfl rfl rfl rfl) J3 ?_;intro z cz C;have t:=U0 (HMK.out _ z P.heap.size cd m fa ta ra fc tc rc R g.size C cz x.out (HK.out z (by have:=C.size;simp at this;omega) (fun q _ hq=>(C.block q O0).trans (Lib.alloc_old P _ q hq))));refine J8 d (l.out _ (R.trans (C.below g.size))) fun hH=>?_;clear d K;refine wdn ?_
      go_wp2_with fail
      go_meet
      case rel=>exact ⟨_,_,_,_,_,_,_,_,_,rfl,t⟩
    go_simp;have L:=U0 (G6 X [vO,vO,vN,vO,vN,vN] 62);have g:Bw V (X.alloc (.cells #[vO,vO,vN,vO,vN,vN] 62)):=E.alloc E.size _;have S2:=U0 (Z5 S1.out (o7 (w:=X) (o:=.cells #[vO,vO,vN,vO,vN,vN] 62)));refine J8 d (l.out _ g) fun hH=>?_;clear d K;refine rq 5 fun K d=>?_;go_simp;refine (HCB.out _ H k1 g S2.out).mono ?_;rintro e y3 ⟨⟨cd,m,fa,fc,ta,tc,ra,rc,rfl,ho,O⟩,n⟩;have Q:=G7 g n;have x:=U0 ho;have HK:=U0 O;have a3L:=U0 (L.out.below n L.out.lt);have hAl:=U0 L.out.lt;clear ho O n
    go_wp2_with fail
    refine J8 d (l.out _ Q) fun hH=>?_;clear d K;refine rq 7 fun K d=>?_;refine Ik rfl 62 _ _ rfl (B:=X.heap.size) (j:=0) rfl (vs:=[vI cd,vI m.ep,vL fa m.fs.length fc,vI m.s.wd,vL ta m.s.ts.length tc,vL ra m.s.rs.length rc]) rfl a3L.out x9 (Cj rfl rfl rfl rfl rfl rfl) J3 ?_;intro z cz C;have t:=U0 (HMK.out _ z X.heap.size cd m fa ta ra fc tc rc Q E.size C cz x.out (HK.out.on C hAl.out).now);refine J8 d (l.out _ (Q.trans (C.below E.size))) fun hH=>?_;clear d K;refine wdn ?_
    go_wp2_with fail
    go_meet
    case rel=>exact ⟨_,_,_,_,_,_,_,_,_,rfl,t⟩
  go_simp;have CA0:=U0 (G6 V.drew [vO,vO,vN,vO,vN,vN] 62);have E:Bw V (V.drew.alloc (.cells #[vO,vO,vN,vO,vN,vN] 62)):=bd.alloc x9 _;refine J8 d (l.out _ E) fun hH=>?_;clear d K;refine rq 2 fun K d=>?_;go_simp;refine (HCA.out _ E).mono ?_;rintro e P ⟨⟨H,k1,rfl,h1⟩,n⟩;have g:=G7 E n;have L:=U0 (CA0.out.below n CA0.out.lt);have S1:=U0 h1;clear h1 n
  go_wp2_with fail
  refine J8 d (l.out _ g) fun hH=>?_;clear d K;refine rq 5 fun K d=>?_;go_simp;refine (HCB.out P H k1 g S1.out).mono ?_;rintro e y3 ⟨⟨cd,m,fa,fc,ta,tc,ra,rc,rfl,ho,O⟩,n⟩;have Q:=G7 g n;have x:=U0 ho;have HK:=U0 O;have a3L:=U0 (L.out.below n L.out.lt);have hAl:=U0 L.out.lt;clear ho O n
  go_wp2_with fail
  refine J8 d (l.out _ Q) fun hH=>?_;clear d K;refine rq 7 fun K d=>?_;refine Ik rfl 62 _ _ rfl (B:=V.drew.heap.size) (j:=0) rfl (vs:=[vI cd,vI m.ep,vL fa m.fs.length fc,vI m.s.wd,vL ta m.s.ts.length tc,vL ra m.s.rs.length rc]) rfl a3L.out x9 (Cj rfl rfl rfl rfl rfl rfl) J3 ?_;intro z cz C;have t:=U0 (HMK.out _ z V.drew.heap.size cd m fa ta ra fc tc rc Q x9 C cz x.out (HK.out.on C hAl.out).now);refine J8 d (l.out _ (Q.trans (C.below x9))) fun hH=>?_;clear d K;refine wdn ?_
  go_wp2_with fail
  go_meet
  case rel=>exact ⟨_,_,_,_,_,_,_,_,_,rfl,t⟩
 obtain ⟨A,cd,m,fa,ta,ra,fc,tc,rc,rfl,t⟩:=hcut;have x:=U0 t.out.out;have CM:=U0 t.out.cm;have CB:=U0 t.out.cb;have r:=U0 t.out.bel;have HF:=U0 t.out.fl;have HSt:=U0 t.out.st;have HSM:=U0 t.out.out.1;clear t W N;have m0:=CM.out.cell 0;simp only [@gz Value] at m0;have H:=CB.out.cell 1;simp only [@gz Value] at H;by_cases hcd:cd=0;rotate_left
 · have U:Hid (¬ (Pre b/\cd=0/\VM b m)):=fun h=>hcd h.2.1;go_wp2;go_ret;exact ⟨.inr ⟨cd,m,x.out,G5 U.out⟩,r.out⟩
 rw [hcd] at m0;have HCD:=U0 hcd;clear hcd
 cases hup:b.up with
 | false=>
  rw [hup] at H;have HUP:=U0 hup;clear hup
  go_wp2_with (refine Z9 rfl (Y8 48 _ rfl (B:=w.heap.size) (j:=0) (cs:=(bsV b q)) rfl (fun q v e=>by rw [E8];exact (CB.out.cell q).trans e) underlying48 rfl J3) ?_)
  refine (c37 b q wc F.out HPR.out.2.1 (J.out.below r.out)).mono ?_;rintro e w2 ⟨⟨D,rfl,f⟩,hb2⟩;have HE:Hid (D=true↔Pre b/\cd=0/\VM b m):=⟨fun h=>⟨HPR.out,HCD.out,.inr ⟨HUP.out,f.1 h⟩⟩,fun h=>f.2 (by rcases h.2.2 with ⟨k,_⟩ | ⟨_,k⟩;(rw [HUP.out] at k;cases k);exact k)⟩;have B2:=U0 (G7 r.out hb2);clear f hb2;go_wp2;go_ret;exact ⟨.inr ⟨cd,m,x.out,_,rfl,HE.out⟩,B2.out⟩
 | true=>
 rw [hup] at H;have HUP:=U0 hup;clear hup;have HNO:Hid (¬ Upp b m->¬ (Pre b/\cd=0/\VM b m)):=fun h k=>by
  rcases k.2.2 with ⟨_,k⟩ | ⟨k,_⟩
  · exact h k
  rw [HUP.out] at k;cases k
 have HYE:Hid (Upp b m->Pre b/\cd=0/\VM b m):=fun h=>⟨HPR.out,HCD.out,.inl ⟨HUP.out,h⟩⟩
 go_upto_region 8 with fail
 clear m0 H;have l:Hid (∀ u,Bw wc u->Cl u w.heap.size 48 (bsV b q)/\Cl u A 62 [vI cd,vI m.ep,vL fa m.fs.length fc,vI m.s.wd,vL ta m.s.ts.length tc,vL ra m.s.rs.length rc]/\u.cell? (aW w 4)=some (vI b.ed)/\u.cell? (aW w 7)=some (vL q.fa b.fs.length q.fc)/\u.cell? (aW w 12)=some (vL q.oa b.rt.length q.oc)/\u.cell? (aW w 13)=some (vL q.na b.rn.length q.nc)):=fun u p=>by
  have h1:=CB.out.below p CB.out.lt;have h2:=CM.out.below p CM.out.lt;exact ⟨h1,h2,h1.cell 4,h1.cell 7,h1.cell 12,h1.cell 13⟩
 have hvd:Bw wc wc.drew:=(Z4 _ _).drew;refine wp_region_held_drew (S:=fun u=>Cl u w.heap.size 48 (bsV b q)/\Cl u A 62 [vI cd,vI m.ep,vL fa m.fs.length fc,vI m.s.wd,vL ta m.s.ts.length tc,vL ra m.s.rs.length rc]/\u.cell? (aW w 4)=some (vI b.ed)/\u.cell? (aW w 7)=some (vL q.fa b.fs.length q.fc)/\u.cell? (aW w 12)=some (vL q.oa b.rt.length q.oc)/\u.cell? (aW w 13)=some (vL q.na b.rn.length q.nc)) J3 (l.out _ hvd) fun hH=>?_;refine tq 0 hH ?_ (hv:=fun u p=>Y8 48 _ rfl (B:=w.heap.size) (j:=0) (cs:=(bsV b q)) rfl (fun q v e=>by rw [E8];exact (p.1.cell q).trans e) underlying48 rfl J3)
 try simp only [qq]
 refine tq 1 hH ?_ (hv:=fun u p=>Y8 62 _ rfl (B:=A) (j:=0) (cs:=[vI cd,vI m.ep,vL fa m.fs.length fc,vI m.s.wd,vL ta m.s.ts.length tc,vL ra m.s.rs.length rc]) rfl (fun q v e=>by rw [E8];exact (p.2.1.cell q).trans e) underlying62 rfl J3)
 try simp only [qq]
 refine rq 2 fun K d=>?_;go_simp;have a5L:=U0 (c38 b q cd m fa ta ra fc tc rc wc.drew F.out HSM.out (J.out.below (G7 r.out hvd)) (T.U5 HF.out hvd) (HSt.out.below hvd));refine a5L.out.mono ?_;rintro e w2 ⟨⟨D,rfl,f⟩,hb2⟩;have g:=hvd.trans (hb2.mono x9);clear hb2 a5L
 go_wp2_with fail
 refine J8 d (l.out _ g) fun hH=>?_;clear d K
 cases D with
 | false=>
  have I:=U0 (HNO.out (fun h=>by have:=f.2 h.1;cases this));clear f;refine Y0 3 ?_;refine Y4 4 ?_;refine Y4 5 ?_;refine Y4 6 ?_;refine Y0 7 ?_;refine Y0 8 ?_;refine Y4 9 ?_;refine Y4 10 ?_;refine Y4 11 ?_;refine Y0 12 ?_;refine Y0 13 ?_;refine Y4 14 ?_;refine Y4 15 ?_;refine Y4 16 ?_;refine Y0 17 ?_;refine Y0 18 ?_;refine Y4 19 ?_;refine Y4 20 ?_;refine Y4 21 ?_;refine Y4 22 ?_;refine Y4 23 ?_;refine Y4 24 ?_;refine Y0 25 ?_;refine Y0 26 ?_;refine Y4 27 ?_;refine Y4 28 ?_;refine Y0 29 ?_;refine Y0 30 ?_;refine wdn ?_;go_wp2;go_ret;exact ⟨.inr ⟨cd,m,x.out,G5 I.out⟩,G7 r.out g⟩
 | true=>
 have HR:=U0 (f.1 rfl);clear f;refine Y0 3 ?_;refine Y0 4 ?_;refine Y0 5 ?_;by_cases Z:0<=b.ed;rotate_left
 · have I:=U0 (HNO.out (fun h=>Z h.2.1.1));have z:b.ed<0:=O0;refine Y0 6 ?_
   try rw [P9 Z]
   refine Y0 7 ?_;refine Y0 8 ?_;refine Y4 9 ?_;refine Y4 10 ?_;refine Y4 11 ?_;refine Y0 12 ?_;refine Y0 13 ?_;refine Y4 14 ?_;refine Y4 15 ?_;refine Y4 16 ?_;refine Y0 17 ?_;refine Y0 18 ?_;refine Y4 19 ?_;refine Y4 20 ?_;refine Y4 21 ?_;refine Y4 22 ?_;refine Y4 23 ?_;refine Y4 24 ?_;refine Y0 25 ?_;refine Y0 26 ?_;refine Y4 27 ?_;refine Y4 28 ?_;refine Y0 29 ?_;refine Y0 30 ?_;refine wdn ?_;go_wp2;go_ret;exact ⟨.inr ⟨cd,m,x.out,G5 I.out⟩,G7 r.out g⟩
 refine Y0 6 ?_
 try rw [y_ Z]
 refine Y0 7 ?_;refine Y0 8 ?_;refine Y0 9 ?_;refine Y0 10 ?_;by_cases Y:b.ed<=1000;rotate_left
 · have I:=U0 (HNO.out (fun h=>Y h.2.1.2));have z:1000<b.ed:=O0;refine Y0 11 ?_
   try rw [P9 Y]
   refine Y0 12 ?_;refine Y0 13 ?_;refine Y4 14 ?_;refine Y4 15 ?_;refine Y4 16 ?_;refine Y0 17 ?_;refine Y0 18 ?_;refine Y4 19 ?_;refine Y4 20 ?_;refine Y4 21 ?_;refine Y4 22 ?_;refine Y4 23 ?_;refine Y4 24 ?_;refine Y0 25 ?_;refine Y0 26 ?_;refine Y4 27 ?_;refine Y4 28 ?_;refine Y0 29 ?_;refine Y0 30 ?_;refine wdn ?_;go_wp2;go_ret;exact ⟨.inr ⟨cd,m,x.out,G5 I.out⟩,G7 r.out g⟩
 refine Y0 11 ?_
 try rw [y_ Y]
 refine Y0 12 ?_;refine Y0 13 ?_;refine Y0 14 ?_;refine Y0 15 ?_;refine rq 16 fun K d=>?_;go_simp;refine (c39 q.oa q.oc b.rt w2 HCP.out.1 F.out.rl F.out.rs (Z5 J.out.rt (G7 r.out g))).mono ?_;rintro e w3 ⟨⟨D,rfl,f⟩,hw3⟩;obtain rfl:=hw3.symm
 go_wp2_with fail
 refine J8 d (l.out _ g) fun hH=>?_;clear d K
 cases D with
 | false=>
  have I:=U0 (HNO.out (fun h=>by have:=f.2 h.2.2.1;cases this));clear f;refine Y0 17 ?_;refine Y0 18 ?_;refine Y4 19 ?_;refine Y4 20 ?_;refine Y4 21 ?_;refine Y4 22 ?_;refine Y4 23 ?_;refine Y4 24 ?_;refine Y0 25 ?_;refine Y0 26 ?_;refine Y4 27 ?_;refine Y4 28 ?_;refine Y0 29 ?_;refine Y0 30 ?_;refine wdn ?_;go_wp2;go_ret;exact ⟨.inr ⟨cd,m,x.out,G5 I.out⟩,G7 r.out g⟩
 | true=>
 have HRT:=U0 (f.1 rfl);clear f;refine Y0 17 ?_;refine Y0 18 ?_;refine Y0 19 ?_;refine Y0 20 ?_;refine Y0 21 ?_;refine Y0 22 ?_;refine rq 23 fun K d=>?_;go_simp;refine (G.c41 q.fa q.fc b.fs w2 F.out.fl F.out.fz (T.U5 J.out.fs (G7 r.out g)) (HV.out.below (G7 r.out g))).mono ?_;rintro e w3 ⟨⟨ms,v,rfl,hrow,hpt⟩,hb3⟩;obtain ⟨pa,pc,rfl,hmk⟩:=G.Jp hrow;have R:=G7 g hb3;have HPT:=U0 hpt;have HMK:=U0 hmk;clear hb3 hrow hpt hmk
 go_wp2_with fail
 refine J8 d (l.out _ R) fun hH=>?_;clear d K;refine rq 24 fun K d=>?_;go_simp;refine (c40 q.na pa q.nc pc b.rn ms w3 F.out.nl F.out.ns (G.vG HPT.out) (G.uO HPT.out) (rf J.out.rn (G7 r.out R)) HMK.out).mono ?_;rintro e w4 ⟨⟨D,rfl,f⟩,hb4⟩;have b4:=G7 R hb4;clear hb4
 go_wp2_with fail
 refine J8 d (l.out _ b4) fun hH=>?_;clear d K
 cases D with
 | false=>
  have I:=U0 (HNO.out (fun h=>by
   obtain ⟨ms',h5,h6,_⟩:=h.2.2.2;obtain rfl:=G.Jz h5 HPT.out;have:=f.2 h6;cases this))
  clear f;refine Y0 25 ?_;refine Y0 26 ?_;refine Y4 27 ?_;refine Y4 28 ?_;refine Y0 29 ?_;refine Y0 30 ?_;refine wdn ?_;go_wp2;go_ret;exact ⟨.inr ⟨cd,m,x.out,G5 I.out⟩,G7 r.out b4⟩
 | true=>
 have HRN:=U0 (f.1 rfl);clear f;refine Y0 25 ?_;refine Y0 26 ?_;refine tq 27 hH ?_ (hv:=fun u p=>Y8 48 _ rfl (B:=w.heap.size) (j:=0) (cs:=(bsV b q)) rfl (fun q v e=>by rw [E8];exact (p.1.cell q).trans e) underlying48 rfl J3)
 try simp only [qq]
 refine rq 28 fun K d=>?_;go_simp;refine (c42 b q w4 F.out HCP.out.2 HPR.out.1.1 HPR.out.1.2 (J.out.below (G7 r.out b4))).mono ?_;rintro e w5 ⟨⟨D,rfl,f⟩,hb5⟩;have b5:=G7 b4 hb5;have HE:Hid (D=true↔Pre b/\cd=0/\VM b m):=⟨fun h=>HYE.out ⟨HR.out,⟨Z,Y⟩,HRT.out,ms,HPT.out,HRN.out,f.1 h⟩,fun h=>f.2 (by
  rcases h.2.2 with ⟨_,k⟩ | ⟨k,_⟩
  · obtain ⟨_,_,_,k⟩:=k.2.2.2;exact k
  rw [HUP.out] at k;cases k)⟩
 have B5:=U0 (G7 r.out b5);clear hb5 f
 go_wp2_with fail
 refine J8 d (l.out _ b5) fun hH=>?_;clear d K;refine Y0 29 ?_;refine Y0 30 ?_;refine wdn ?_;go_wp2;go_ret;exact ⟨.inr ⟨cd,m,x.out,_,rfl,HE.out⟩,B5.out⟩
