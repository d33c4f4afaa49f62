import Derived.Test.YtchjpjmcnhjbcaaGreatDoorR2
import Derived.Test.YtchjpjmcnhjbcaaGreatDoorvV
set_option maxHeartbeats 8000000
set_option maxRecDepth 100000
set_option linter.unusedVariables false
namespace Go.Proofs.YtchjpjmcnhjbcaaGreatDoor
open Proofs.Tryz Go.RowKit
def OX (W:Int):MS:=⟨0,[],⟨W,[],[]⟩⟩
def Qw (es:LB) (W:Int):Prop:=(1<=W/\W<=8)/\es.length<=1000
def Rp5 (w:World) (es:LB) (W:Int) (e:Ending) (w':World):Prop:=∃ vs,e=.returned (.agg vs.toArray)/\((¬ Qw es W/\vs=[.int .i64 1,.int .i64 0,.slice none 0 0,.int .i64 0,.slice none 0 0,.slice none 0 0])\/(Qw es W/\∃ o,XF RES es (OX W) o/\((o=none/\vs=[.int .i64 2,.int .i64 0,.slice none 0 0,.int .i64 0,.slice none 0 0,.slice none 0 0])\/∃ m,o=some m/\Iw w' w.heap.size m vs)))
structure Q5 (w:World) (B:Nat) (m:MS) (vs:List Value) (u:World):Prop where
 b:Bw w u
 hB:w.heap.size<B
 hr:Cl u w.heap.size 95 [.int .i64 0,.int .i64 0,.slice none 0 0,.int .i64 0,.slice none 0 0,.slice none 0 0]
 hm:Cl u B 95 vs
 sp:Iw u w.heap.size m vs
section
variable {w u u' z:World} {m:MS} {vs:List Value} {es:LB} {W:Int}
theorem Q5.below {B:Nat} (h:Q5 w B m vs u) (a:Bw u u'):Q5 w B m vs u':=⟨h.b.trans (a.mono h.b.size),h.hB,h.hr.below a h.hr.lt,h.hm.below a h.hm.lt,h.sp.below a⟩
def upd (f:Nat->g_) (k:Nat) (x:g_):Nat->g_:=fun j=>if j=k then x else f j
theorem QK {f:Nat->g_} {k:Nat} {x:g_}:upd f k x k=x:=X7 rfl
theorem wJ {f:Nat->g_} {k j:Nat} {x:g_} (h:j<k):upd f k x j=f j:=I7 O0
section
variable {R:List UInt8->g_->Bool->Prop} {m0 m m':MS} {f:Nat->g_} {k:Nat} {x:g_}
theorem Ox (hF:∀ j,j<k->R (eL es j) (f j) true) (hR:rn f m0 k=some m) (hx:R (eL es k) x true) (hd:dn m x=some m'):(∀ j,j<k+1->R (eL es j) (upd f k x j) true)/\rn (upd f k x) m0 (k+1)=some m':=by
 refine ⟨fun j a=>?_,?_⟩
 · by_cases h:j=k
   · subst h;rw [QK];exact hx
   rw [wJ O0];exact hF j O0
 show (rn _ _ k).bind _=_;rw [Dk (g:=f) k (fun j a=>wJ a),hR];show dn m _=_;rw [QK];exact hd
theorem JO (b:k<es.length) (hF:∀ j,j<k->R (eL es j) (f j) true) (hR:rn f m0 k=some m) (hx:R (eL es k) x true) (hd:dn m x=none):XF R es m0 none:=
 .inr ⟨rfl,k,upd f k x,m,b,fun j a=>(by rw [wJ a];exact hF j a),(Dk k (fun j a=>wJ a)).trans hR,.inr ⟨(by rw [QK];exact hx),(by rw [QK];exact hd)⟩⟩
theorem eY (a:k<es.length) (hF:∀ j,j<k->R (eL es j) (f j) true) (hR:rn f m0 k=some m) (hx:R (eL es k) Di false):XF R es m0 none:=.inr ⟨rfl,k,f,m,a,hF,hR,.inl hx⟩
theorem wO (hF:∀ j,j<es.length->R (eL es j) (f j) true) (hR:rn f m0 es.length=some m):XF R es m0 (some m):=.inl ⟨f,m,hF,hR,rfl⟩
end
theorem uQ {a b c d e f:Value} (h:vs.length=6):Um [a,b,c,d,e,f] 0 vs=vs:=by
 unfold Um;rw [h];simp
theorem a1x (h:1<=W/\W<=8):MOk (OX W):=⟨by show (0:Int)<=0;omega,by show (0:Int)<=200;omega,by show (0:Nat)<=40;omega,fun i=>⟨by show (0:Nat)<=4000;omega,by show (0:Nat)<=4000;omega⟩,Gq h⟩
theorem WR {a:Array Value} (n:Int) (hc:Cl u w.heap.size 95 [.int .i64 0,.int .i64 0,.slice none 0 0,.int .i64 0,.slice none 0 0,.slice none 0 0]) (g:Cl z w.heap.size 95 vs) (b:uy w.heap.size u z) (d:Bw w u) (hl:vs.length=6) (c:a.getD 4 undef=.pointer (some ⟨w.heap.size,0,none⟩)) (f:∀ z:World,(∀ q t,ng u q t->t≠95->z.heap[q]?=u.heap[q]?)->Rp5 w es W (.returned (.agg vs.toArray)) z):bodyPost prog f56 (fun e w'=>Rp5 w es W e w'/\Bw w w') .ret ⟨a,[]⟩ z:=
 Y6 (v:=.agg vs.toArray) (Q8 (P:=prog) (ty:=95) rfl a z w.heap.size vs _ c g.blk underlying95 rfl (by rw [hl];kernel_rfl)) rfl ⟨f z (fun q t hT ht=>b.block q (fun e=>ht (Y8 (e▸hT) (Cb hc)))),d.trans (b.below H8)⟩
end
theorem c56 (a:OA) (cap:Nat) (es:LB) (W:Int) (w:World) (hl:es.length<=1048576) (hs:∀ i,(es.getD i ByteArray.empty).size<=1048576) (hat:P7 w a es):
 Calls prog 56 #[.slice a es.length cap,.int .i64 W] w fun e w'=>Rp5 w es W e w'/\Bw w w':=by
 have HAT:=U0 hat;have HSZ:=U0 hs;clear hat hs;go_enter func56,ntmps56
 go_upto_region 1 with fail
 obtain ⟨V,hV⟩:∃ V:World,V=w.alloc (.cells #[vO,vO,vN,vO,vN,vN] 95):=⟨_,rfl⟩;rw [<- hV];have D:Bw w V:=by rw [hV];exact P6
 have r:Hid (Cl V w.heap.size 95 [vO,vO,vN,vO,vN,vN]):=by show Cl _ _ _ _;rw [hV];exact Y4 w [vO,vO,vN,vO,vN,vN] 95
 have p:V.heap.size=w.heap.size+1:=by rw [hV];simp
 have HZ:=U0 p;clear hV p;have l:Hid (∀ v∈([vI 1,vO,vN,vO,vN,vN]:List Value),v.oneCell'=true):=Ij rfl rfl rfl rfl rfl rfl;by_cases hw:1<=W/\W<=8;rotate_left
 · have HBD:Hid (¬ Qw es W):=fun h=>hw h.1;have hd:=S9 hw
   go_wp2_with fail
   refine (lV W V).mono ?_;rintro e V1 ⟨rfl,Q⟩;obtain rfl:=Q.symm;rw [hd]
   go_wp2_with (refine y9 rfl 95 _ _ rfl (B:=w.heap.size) (j:=0) rfl (vs:=[vI 1,vO,vN,vO,vN,vN]) rfl r.out H8 l.out Y2 ?_;intro z g d)
   exact WR 1 r.out g d D rfl rfl (fun z _=>⟨_,rfl,.inl ⟨HBD.out,rfl⟩⟩)
 have hd:=C_ hw
 go_wp2_with fail
 refine (lV W V).mono ?_;rintro e V1 ⟨rfl,Q⟩;obtain rfl:=Q.symm;rw [hd];by_cases hbig:1000<es.length
 · have HBD:Hid (¬ Qw es W):=fun h=>by have:=h.2;omega
   have N:(1000:Int)<es.length:=O0
   go_wp2_with (refine y9 rfl 95 _ _ rfl (B:=w.heap.size) (j:=0) rfl (vs:=[vI 1,vO,vN,vO,vN,vN]) rfl r.out H8 l.out Y2 ?_;intro z g d)
   exact WR 1 r.out g d D rfl rfl (fun z _=>⟨_,rfl,.inl ⟨HBD.out,rfl⟩⟩)
 have N:¬ (1000:Int)<es.length:=O0;have Z:Hid (Qw es W):=⟨hw,O0⟩
 go_upto_region 4 with fail
 obtain ⟨U,S⟩:∃ U:World,U=V.alloc (.cells #[vO,vO,vN,vI W,vN,vN] 95):=⟨_,rfl⟩;rw [<- S];have HQ:Hid (Q5 w V.heap.size (OX W) [vO,vO,vN,vI W,vN,vN] U):=by
  rw [S];exact ⟨D.alloc D.size _,by rw [HZ.out];omega,G9 r.out _,Y4 V [_,_,_,_,_,_] 95,a1x hw,_,_,_,rfl,mg _ _ _ _,Np _ _⟩
 clear S r;generalize V.heap.size=B at*;clear D HZ hd
 go_wp2_with fail
 go_loopw [6] (fun i wr=>∃ (k:Nat) (f:Nat->g_) (m:MS) (vs:List Value),i=.int .i64 k/\k<=es.length/\Hid (∀ j,j<k->RES (eL es j) (f j) true)/\Hid (rn f (OX W) k=some m)/\Hid (Q5 w B m vs wr)) (fun i _=>es.length - (RowKit.intOf i).toNat)
 case atStart=>exact ⟨0,fun _=>Di,_,_,rfl,J4 _,fun j h=>absurd h (J8 _),rfl,HQ⟩
 obtain ⟨k,f,m,vs,rfl,hk,K,J,H⟩:=hrel;clear HQ;have hsp:=H.out.sp.ex;obtain ⟨fv,tv,rv,rfl,hfo,hso⟩:=hsp;obtain ⟨fa,fc,rfl⟩:=I_ hfo;obtain ⟨ta,tc,rfl⟩:=I_ hso.1;obtain ⟨_,vs0,hr0⟩:=hso;obtain ⟨ra,rc,rfl⟩:=I_ hr0.row;clear hr0 hfo;have HLD:Hid (∀ (q:Nat) (v:Value),([vO,vI m.ep,vL fa m.fs.length fc,vI m.s.wd,vL ta m.s.ts.length tc,vL ra m.s.rs.length rc]:List Value)[q]?=some v->wr.cell? (aA B (0+q))=some v):=fun q v e=>by rw [L8];exact (H.out.hm.cell q).trans e
 by_cases L:k<es.length;rotate_left
 · obtain rfl:k=es.length:=O0;have l:Hid (∀ v∈([vO,vI m.ep,vL fa m.fs.length fc,vI m.s.wd,vL ta m.s.ts.length tc,vL ra m.s.rs.length rc]:List Value),v.oneCell'=true):=Ij rfl rfl rfl rfl rfl rfl
   go_wp2_with (first | (refine Y9 rfl (X8 95 _ rfl (B:=B) (j:=0) (cs:=[vO,vI m.ep,vL fa m.fs.length fc,vI m.s.wd,vL ta m.s.ts.length tc,vL ra m.s.rs.length rc]) rfl HLD.out underlying95 rfl Y2) ?_) | (refine y9 rfl 95 _ _ rfl (B:=w.heap.size) (j:=0) rfl (vs:=[vO,vI m.ep,vL fa m.fs.length fc,vI m.s.wd,vL ta m.s.ts.length tc,vL ra m.s.rs.length rc]) rfl H.out.hr H8 l.out Y2 ?_;intro z g d))
   exact WR 0 H.out.hr g d H.out.b rfl rfl (fun z p=>⟨_,rfl,.inr ⟨Z.out,_,wO K.out J.out,.inr ⟨m,rfl,H.out.sp.keep p⟩⟩⟩)
 obtain ⟨b,off,hst⟩:=K_ (U5 HAT.out H.out.b);obtain ⟨rfl,hbw,hce⟩:=Cc hst L;have hc0:=hce k L;clear hce;have HRD:=U0 (c95 (es.getD k ByteArray.empty) wr (HSZ.out k));have HEL:Hid ((es.getD k ByteArray.empty).data.toList=eL es k):=rfl;generalize es.getD k ByteArray.empty=s at*
 go_upto_region 7 with fail
 go_wp2_with fail
 refine HRD.out.mono ?_;rintro e u ⟨⟨x,ok,F,C,rfl,hx,hxz,hxl,hlk⟩,N⟩;rw [HEL.out] at hx;have H1:=U0 (H.out.below N);have I:=U0 hx;have HXZ:=U0 hxz;have HXL:=U0 hxl;have O:=U0 hlk;clear HRD hx hxz hxl hlk H hc0 HLD;dsimp only [g_.c]
 go_upto_region 8 with fail
 obtain ⟨y,A⟩:∃ q:World,q=u.alloc (.cells (x.c F C).toArray 137):=⟨_,rfl⟩;have X:Bw u y:=by rw [A];exact P6
 have CE:Hid (Cl y u.heap.size 137 (x.c F C)):=by show Cl _ _ _ _;rw [A];exact Y4 u _ 137
 dsimp only [g_.c] at A;rw [<- A];have H:=U0 (H1.out.below X);have O:=U0 (l7 O.out X);clear A X H1 N;generalize u.heap.size=E at*;cases ok
 · obtain ⟨hz1,hz2,hz3⟩:=HXZ.out rfl;have HBAD:=U0 (hz1▸I.out);have l:Hid (∀ v∈([vI 2,vO,vN,vO,vN,vN]:List Value),v.oneCell'=true):=Ij rfl rfl rfl rfl rfl rfl;clear hz1 hz2 hz3
   go_wp2_with (refine y9 rfl 95 _ _ rfl (B:=w.heap.size) (j:=0) rfl (vs:=[vI 2,vO,vN,vO,vN,vN]) rfl H.out.hr H8 l.out Y2 ?_;intro z g d)
   exact WR 2 H.out.hr g d H.out.b rfl rfl (fun z p=>⟨_,rfl,.inr ⟨Z.out,_,eY L K.out J.out HBAD.out,.inl ⟨rfl,rfl⟩⟩⟩)
 have HEN:=U0 (I.out.1 rfl).1;have HLM:Hid (∀ (q:Nat) (v:Value),([vO,vI m.ep,vL fa m.fs.length fc,vI m.s.wd,vL ta m.s.ts.length tc,vL ra m.s.rs.length rc]:List Value)[q]?=some v->y.cell? (aA B (0+q))=some v):=fun q v e=>by rw [L8];exact (H.out.hm.cell q).trans e
 have HLE:Hid (∀ (q:Nat) (v:Value),(x.c F C)[q]?=some v->y.cell? (aA E (0+q))=some v):=fun q v e=>by rw [L8];exact (CE.out.cell q).trans e
 have HC:=U0 (c96 w.heap.size m _ x F C y H.out.sp H.out.b.size HEN.out HXL.out O.out)
 go_upto_region 10 with fail
 go_wp2_with (first | (refine Y9 rfl (X8 95 _ rfl (B:=B) (j:=0) (cs:=[vO,vI m.ep,vL fa m.fs.length fc,vI m.s.wd,vL ta m.s.ts.length tc,vL ra m.s.rs.length rc]) rfl HLM.out underlying95 rfl Y2) ?_) | (refine Y9 rfl (X8 137 _ rfl (B:=E) (j:=0) (cs:=x.c F C) rfl HLE.out underlying137 rfl Y2) ?_))
 refine HC.out.mono ?_;rintro e w2 ⟨⟨o,rfl,R,ho2,hS2⟩,hb2⟩;have n:=U0 (H.out.below hb2);have HO2:=U0 ho2;have HS2:=U0 hS2;have HI2:Hid ((prog.info? 95).map (·.size)=some o.length):=by show _=_;rw [R];kernel_rfl
 have HL2:Hid (0+o.length<=([vO,vI m.ep,vL fa m.fs.length fc,vI m.s.wd,vL ta m.s.ts.length tc,vL ra m.s.rs.length rc]:List Value).length):=by show _<=_;rw [R];exact v_ _
 have HPL:Hid (Um [vO,vI m.ep,vL fa m.fs.length fc,vI m.s.wd,vL ta m.s.ts.length tc,vL ra m.s.rs.length rc] 0 o=o):=uQ R;clear HC ho2 hS2 hb2 H HLM HLE CE O HXL
 go_upto_region 11 with (refine y9 rfl 95 _ _ rfl (B:=B) (j:=0) rfl (vs:=o) rfl n.out.hm HL2.out HO2.out HI2.out ?_;intro z g d)
 rw [HPL.out] at g;have CZ:=U0 g;have Y:=U0 (n.out.hr.on d (by have:=n.out.hB;omega));have BZ:=U0 (n.out.b.trans (d.below (Qo n.out.hB)));have KZ:Hid (∀ q t,ng w2 q t->t≠95->z.heap[q]?=w2.heap[q]?):=fun q t hT ht=>d.block q (fun e=>ht (Y8 (e▸hT) (Cb n.out.hm)));have hBB:=n.out.hB;clear g d n HL2 HI2 HPL
 cases hd:dn m x with
 | none=>
  have P:=U0 hd;have l:Hid (∀ v∈([vI 2,vO,vN,vO,vN,vN]:List Value),v.oneCell'=true):=Ij rfl rfl rfl rfl rfl rfl;clear hd
  go_wp2_with (refine y9 rfl 95 _ _ rfl (B:=w.heap.size) (j:=0) rfl (vs:=[vI 2,vO,vN,vO,vN,vN]) rfl Y.out H8 l.out Y2 ?_;intro z2 cz2 oz2)
  exact WR 2 Y.out cz2 oz2 BZ.out rfl rfl (fun z p=>⟨_,rfl,.inr ⟨Z.out,_,JO L K.out J.out I.out P.out,.inl ⟨rfl,rfl⟩⟩⟩)
 | some m'=>
  have P:=U0 hd;have HSP:=U0 ((HS2.out m' hd).keep KZ.out);clear hd HS2 KZ;go_wp2;go_roundw
  case rel=>exact ⟨k+1,upd f k x,m',o,by go_num,O0,(Ox K.out J.out I.out P.out).1,(Ox K.out J.out I.out P.out).2,BZ.out,hBB,Y.out,CZ.out,HSP.out⟩
  case measure=>simp [RowKit.intOf];omega
end Go.Proofs.YtchjpjmcnhjbcaaGreatDoor
namespace Go.Proofs.YtchjpjmcnhjbcaaGreatDoor
open Proofs.Tryz Go.RowKit
section
variable {w w' u u':World} {B B' R H bT bR bP j n:Nat} {W:Int} {l pl:List (ByteArray×Value)} {rs:List R3} {rv:List Value} {v x0 x1 x2:Value} {x:R3} {a:OA} {gs:List T.F2}
theorem Ul {g:Nat} (h:w'.heap[g]?=w.heap[g]?) (j:Nat):w'.cell? ⟨g,j,none⟩=w.cell? ⟨g,j,none⟩:=by simp only [World.cell?,h]
theorem EQ {g:Nat} (h:w'.heap[g]?=w.heap[g]?) (j:Nat):w'.frozen? ⟨g,j,none⟩=w.frozen? ⟨g,j,none⟩:=by simp only [World.frozen?,h]
theorem Qq (h:T.Ht B w a gs) (c:w.heap.size<=w'.heap.size) (d:∀ q,ng w q 133->w'.heap[q]?=w.heap[q]?) (hB:B'<=B):T.Ht B' w' a gs:=by
 obtain ⟨hf,h⟩:=h;rcases h with rfl | ⟨g,rfl,hg,ho,ht⟩
 · exact ⟨.inl rfl,.inl rfl⟩
 have e:=d g ht;refine ⟨?_,.inr ⟨g,rfl,O0,⟨O9 ho.1 c,fun j f=>by rw [Ul e];exact ho.2.1 j f,fun j=>by rw [EQ e];exact ho.2.2 j⟩,?_⟩⟩
 · rcases hf with h0 | ⟨b,off,h1,h2,l⟩
   · exact .inl h0
   injection h1 with h1;injection h1 with h1 h4;subst h1 h4;exact .inr ⟨g,0,rfl,O9 h2 c,fun i k=>by rw [Ul e,Ul e];exact l i k⟩
 obtain ⟨cur,fr,hc⟩:=ht;exact ⟨cur,fr,e.trans hc⟩
theorem LZ (w:World) (R j:Nat) (v:Value):w.grownBy (w.setCell ⟨R,j,none⟩ v) (some R):=
 have o:=Ve w R j v
 ⟨o.os,o.tape,o.output,qj o.size.symm,fun k _ h=>o.block k (fun e=>h (by rw [e]))⟩
theorem uN (h:jB B w v x) (hR:Cl w R 159 [.int .i64 W,.slice a n j,.pointer (some ⟨H,0,none⟩)]) (i:Nat) (y:Value):jB B (w.setCell ⟨R,i,none⟩ y) v x:=by
 obtain ⟨a,c,hv,p,m⟩:=h;have o:=Ve w R i y;rcases p with h0 | ⟨b,off,ha,l,hc⟩
 · exact ⟨a,c,hv,.inl h0,.inl h0⟩
 by_cases hl:x.gs=[]
 · exact ⟨a,c,hv,.inl hl,.inl hl⟩
 have k:b≠R:=fun e=>by
  subst e;have h0:=(hc 0 (pq.2 hl)).1;rw [hR.cell] at h0;rcases (by omega:off+0*3=0\/off+0*3=1\/off+0*3=2\/3<=off+0*3) with e | e | e | e
  · rw [e] at h0;cases h0
  · rw [e] at h0;cases h0
  · rw [e] at h0;cases h0
  rw [Yb (by simpa using e)] at h0;cases h0
 have e:=o.block b k;refine ⟨a,c,hv,.inr ⟨b,off,ha,by rw [o.size];exact l,fun q g=>by rw [Ul e,Ul e,Ul e];exact hc q g⟩,m.imp id ?_⟩;rintro ⟨b',f,d,h⟩;obtain ⟨rfl,rfl⟩:b'=b/\f=off:=by rw [ha] at d;injection d with d;injection d with h1 h2;exact ⟨h1.symm,h2.symm⟩
 exact ⟨b',f,d,h.imp id (fun ⟨cur,fr,hc⟩=>⟨cur,fr,e.trans hc⟩)⟩
theorem Sh.PZ (h:Sh B H bT bR bP W l rs rv w) {ep:Int} {p:Nat} (hR:Cl w R 159 [.int .i64 ep,.slice a n j,.pointer (some ⟨p,0,none⟩)]) (i:Nat) (y:Value):Sh B H bT bR bP W l rs rv (w.setCell ⟨R,i,none⟩ y):=by
 obtain ⟨pl,hC,hr⟩:=h;have g:=LZ w R i y;have hm:∀ {k:TypeId} {F:Value->Option (DataW Value×List MemPlace)} {b n:Nat} {m:DataW Value},w.ownsMap prog k F b n m->some b≠some R:=fun h e=>by
  obtain ⟨es,ck,c⟩:=Nh h;obtain rfl:=w_ e;unfold Cl at hR;rw [hR] at c;cases c
 refine ⟨pl,hC.kept g (fun e=>absurd (Y8 hC.ty (w_ e▸Cb hR)) o6) (hm hC.tx) (hm hC.rc) (hm hC.pc),hr.len,fun i d=>uN (hr.recs i d) hR _ _,fun k v e=>(hr.grp k v e).kept g ?_,hr.non,hr.apart,hr.pln⟩
 cases hq:v.ownBlock with
 | none=>exact .inl rfl
 | some q=>
  refine .inr (fun f=>?_);obtain ⟨_,_,cur,hc⟩:=Hg (hr.grp k v e) hq;obtain rfl:=w_ f;exact absurd (Y8 ⟨_,_,hc⟩ (Cb hR)) o6
theorem Sh.below' (h:Sh B H bT bR bP W l rs rv w) (a:Bw w w'):Sh B H bT bR bP W l rs rv w':=by
 obtain ⟨pl,hC,hr⟩:=h;exact ⟨pl,hC.below a,hr.below a⟩
end
structure WI (b0 R:Nat) (m:MS) (fa:OA) (fc H B bT bR bP:Nat) (rv:List Value) (u:World):Prop where
 ok:MOk m
 cr:Cl u R 159 [.int .i64 m.ep,.slice fa m.fs.length fc,.pointer (some ⟨H,0,none⟩)]
 nf:T.Ht b0 u fa m.fs
 sh:Sh B H bT bR bP m.s.wd (m.s.ts.map (gT m.s.wd)) m.s.rs rv u
 hB:b0<=B
 hR:b0<=R
def ImM (b0 R:Nat) (m:MS) (u:World):Prop:=∃ fa fc H B bT bR bP rv,WI b0 R m fa fc H B bT bR bP rv u
theorem WI.below {b0 R fc H B bT bR bP:Nat} {m:MS} {fa:OA} {rv:List Value} {u u':World} (h:WI b0 R m fa fc H B bT bR bP rv u) (a:Bw u u'):WI b0 R m fa fc H B bT bR bP rv u':=
 ⟨h.ok,h.cr.below a h.cr.lt,Qq h.nf a.size (fun q b=>a.block q (Be b)) H8,h.sh.below' a,h.hB,h.hR⟩
def UZ (w:World) (b0 R:Nat) (m:MS) (x:g_) (e:Ending) (w':World):Prop:=e=.returned (.bool (dn m x).isSome)/\(∀ m',dn m x=some m'->ImM b0 R m' w')
end Go.Proofs.YtchjpjmcnhjbcaaGreatDoor
namespace Go.Proofs.YtchjpjmcnhjbcaaGreatDoor
open Proofs.Tryz Go.RowKit
section
variable {b0 R fc H B bT bR bP:Nat} {m:MS} {fa:OA} {rv:List Value} {u:World}
theorem WI.ep (h:WI b0 R m fa fc H B bT bR bP rv u) (n:Int) (h0:0<=n/\n<=200):WI b0 R ⟨n,m.fs,m.s⟩ fa fc H B bT bR bP rv (u.setCell ⟨R,0,none⟩ (.int .i64 n)):=
 have o:=Ve u R 0 (vI n)
 ⟨⟨h0.1,h0.2,h.ok.fl,h.ok.fz,h.ok.st⟩,h.cr.set 0 _,Qq h.nf (qj o.size.symm) (fun q a=>o.block q (fun e=>absurd (Y8 a (e▸Cb h.cr)) o6)) H8,h.sh.PZ h.cr 0 _,h.hB,h.hR⟩
theorem WI.fs {a:OA} {b c:Nat} {gs:List T.F2} (h:WI b0 R m fa fc H B bT bR bP rv u) (g:T.Ht c u a gs) (j:b0<=c) (hl:gs.length<=40) (d:∀ i,(gs.getD i T.I8).le 4000):WI b0 R ⟨m.ep,gs,m.s⟩ a b H B bT bR bP rv (u.setCell ⟨R,1,none⟩ (.slice a gs.length b)):=
 have o:=Ve u R 1 (vL a gs.length b)
 ⟨⟨h.ok.e0,h.ok.e1,hl,d,h.ok.st⟩,h.cr.set 1 _,Qq g (qj o.size.symm) (fun q f=>o.block q (fun e=>absurd (Y8 f (e▸Cb h.cr)) o6)) j,h.sh.PZ h.cr 1 _,h.hB,h.hR⟩
theorem WI.ts {a B' c d f:Nat} {b:List Value} {s':St} (h:WI b0 R m fa fc H B bT bR bP rv u) (g:Sh B' a c d f s'.wd (s'.ts.map (gT s'.wd)) s'.rs b u) (k:b0<=B') (j:Xg s'):WI b0 R ⟨m.ep,m.fs,s'⟩ fa fc a B' c d f b (u.setCell ⟨R,2,none⟩ (.pointer (some ⟨a,0,none⟩))):=
 have o:=Ve u R 2 (.pointer (some (aA a 0)))
 ⟨⟨h.ok.e0,h.ok.e1,h.ok.fl,h.ok.fz,j⟩,h.cr.set 2 _,Qq h.nf (qj o.size.symm) (fun q i=>o.block q (fun e=>absurd (Y8 i (e▸Cb h.cr)) o6)) H8,g.PZ h.cr 2 _,k,h.hR⟩
end
theorem a3R (b0 R:Nat) (m:MS) (x:g_) (v:OA) (O:Nat) (w:World) (hM:ImM b0 R m w) (hb0:b0<=w.heap.size) (hmx:Dc w) (hx:V8 x) (hxl:x.le 1048576) (hlk:o9 w v x.ls):
 Calls prog 111 #[.pointer (some ⟨R,0,none⟩),qU x v O] w fun e w'=>UZ w b0 R m x e w'/\Below b0 w w':=by
 obtain ⟨fa,fc,H,B,bT,bR,bP,rv,r⟩:=hM;have I:=U0 r;have HLK:=U0 hlk;have e0:=r.ok.e0;have e1:=r.ok.e1;have Y:=r.cr.cell 0;have X:=r.cr.cell 1;have Q:=r.cr.cell 2;have J:=r.cr.opn;have hR:=r.hR;have hRl:=r.cr.lt;simp only [@gz Value] at Y X Q;clear r hlk;rcases hx with ⟨n,hn,rfl⟩ | ⟨a,b,h,rfl⟩ | ⟨a,h,rfl⟩ | ⟨km,ls,c,t,h,rfl⟩ | rfl
 · have h0:=dV;show Calls prog 111 #[_,.iface 225 (.int .i64 n)] w _;have f0:=J 0;clear J;go_enter func111,ntmps111;by_cases hne:n=m.ep+1;rotate_left
   · have d:Hid (dn m (h_ n)=none):=by show _=_;exact FZ.trans (I7 hne)
     go_wp2;go_ret;exact ⟨⟨by rw [d.out];rfl,fun m' c=>by rw [d.out] at c;cases c⟩,Z4 _ _⟩
   obtain rfl:=hne;have d:Hid (dn m (h_ (m.ep+1))=some ⟨m.ep+1,m.fs,m.s⟩):=by show _=_;exact FZ.trans (X7 rfl)
   have l:=U0 (I.out.ep (m.ep+1) ⟨O0,hn.2⟩);go_wp2;go_ret;exact ⟨⟨by rw [d.out];rfl,fun m' c=>by rw [d.out] at c;cases c;exact ⟨_,_,_,_,_,_,_,_,l.out⟩⟩,(Z4 _ _).setCell hR _⟩
 · have h0:=rW;have h1:=jX;clear J;show Calls prog 111 #[_,.iface 226 (.agg #[.string a,.string b])] w _;have HX4:Hid ((⟨a,b⟩:T.F2).le 1048576):=⟨by have:=QO h.1;show a.size<=1048576;omega,by show b.size<=1048576;omega⟩;have HFZ:Hid (∀ i,(m.fs.getD i T.I8).le 1048576):=fun i=>⟨G7 (I.out.ok.fz i).1 o6,G7 (I.out.ok.fz i).2 o6⟩;go_enter func111,ntmps111
   go_upto_region 10 with fail
   obtain ⟨y,g⟩:∃ q:World,q=w.alloc (.cells #[vS a,vS b] 226):=⟨_,rfl⟩;have f:Bw w y:=by rw [g];exact P6
   have o:Hid (Cl y w.heap.size 226 [vS a,vS b]):=by show Cl _ _ _ _;rw [g];exact Y4 w [_,_] 226
   rw [<- g];have j:Bw y y.drew:=(Z4 _ _).drew;have A:=U0 ((I.out.below f).below j);have CD:=U0 (o.out.below j o.out.lt);clear g Y X Q;refine wp_region_held_drew (S:=fun u=>u.cell? (aW w 0)=some (vS a)/\u.cell? (aW w 1)=some (vS b)) Y2 ⟨CD.out.cell 0,CD.out.cell 1⟩ fun hH=>?_;refine Y0 0 ?_;refine Y0 1 ?_;refine Y0 2 ?_;refine Y0 3 ?_;refine Y0 5 ?_;have P:=A.out.cr.cell 1;simp only [@gz Value] at P;refine rq 4 fun K k=>?_;go_simp;refine E8 k hH fun hH=>?_;clear k K P;refine rq 6 fun K k=>?_;go_simp;refine (T.a4f fa fc m.fs ⟨a,b⟩ y.drew (by have:=I.out.ok.fl;omega) HFZ.out HX4.out A.out.nf.1).mono ?_;rintro e F ⟨⟨V,U,cd,gs,rfl,Z,z⟩,N⟩;have C:=U0 (A.out.below N);have C1:=U0 (CD.out.below N CD.out.lt);have HNF:=U0 Z;have B1:=U0 (((f.mono hb0).trans (j.mono (by have:=f.size;omega))).trans (N.mono (by have:=f.size;have:=j.size;omega)));have D:Hid (dn m (Ib a b)=if cd=0 then some ⟨m.ep,gs,m.s⟩ else none):=by
    show _=_;by_cases hc:cd=0
    · subst hc;rw [X7 rfl,yV,mQ z];rfl
    rw [I7 hc,yV,EO z hc];rfl
   have l:Hid (cd=0->WI b0 R ⟨m.ep,gs,m.s⟩ V U H B bT bR bP rv (F.setCell (aA R 1) (vL V gs.length U))):=fun hc=>by
    subst hc;have L:=IC z I.out.ok.fz;exact C.out.fs HNF.out (by have:=f.size;have:=j.size;omega) L.1 L.2
   clear Z N z hH;refine E8 k ⟨C1.out.cell 0,C1.out.cell 1⟩ fun hH=>?_;clear k K;refine Y0 7 ?_;refine Y0 8 ?_;refine Y0 9 ?_;refine Y0 10 ?_;refine Y0 11 ?_;have P:=C.out.cr.cell 1;have q2:=C.out.cr.opn 1;simp only [@gz Value] at P;refine rq 12 fun K k=>?_;go_simp;have C2:=C1.out.on (Ve F R 1 (vL V gs.length U)) (fun e=>absurd (Y8 (Cb C1.out) (e▸Cb C.out.cr)) o6);clear hH;refine E8 k ⟨C2.cell 0,C2.cell 1⟩ fun hH=>?_;clear k K P q2 C2;refine Y0 13 ?_;refine wdn ?_;clear hH C1 CD o C;by_cases hc:cd=0
   · subst hc;have d:=U0 (D.out.trans (X7 rfl));clear D;go_wp2;go_ret;exact ⟨⟨by rw [d.out];rfl,fun m' c=>by rw [d.out] at c;cases c;exact ⟨_,_,_,_,_,_,_,_,l.out X4⟩⟩,B1.out.setCell hR _⟩
   have hc':(cd==0)=false:=by simpa using hc
   have d:=U0 (D.out.trans (I7 hc));clear D l;go_wp2;go_ret;exact ⟨⟨by rw [d.out];rfl,fun m' c=>by rw [d.out] at c;cases c⟩,B1.out.setCell hR _⟩
 · have h0:=nU;have h1:=RU;have h2:=wU;have f1:=J 1;clear J;show Calls prog 111 #[_,.iface 227 (.string a)] w _;have HFZ:Hid (∀ i,(m.fs.getD i T.I8).le 1048576):=fun i=>⟨G7 (I.out.ok.fz i).1 o6,G7 (I.out.ok.fz i).2 o6⟩;go_enter func111,ntmps111
   go_upto_region 13 with fail
   go_wp2_with fail
   refine (T.c156 fa fc m.fs a w (by have:=I.out.ok.fl;omega) HFZ.out I.out.nf.1).mono ?_;rintro e F ⟨⟨V,U,cd,gs,rfl,Z,z⟩,N⟩;have C:=U0 (I.out.below N);have HNF:=U0 Z;have P:=C.out.cr.cell 1;have q2:=C.out.cr.opn 1;simp only [@gz Value] at P;have B1:=U0 (N.mono hb0);have D:Hid (dn m (Nb a)=if cd=0 then some ⟨m.ep,gs,m.s⟩ else none):=by
    show _=_;by_cases hc:cd=0
    · subst hc;rw [X7 rfl,ZT,KX z];rfl
    rw [I7 hc,ZT,FX z hc];rfl
   have l:Hid (cd=0->WI b0 R ⟨m.ep,gs,m.s⟩ V U H B bT bR bP rv (F.setCell (aA R 1) (vL V gs.length U))):=fun hc=>by
    subst hc;have L:=Ky z I.out.ok.fz;exact C.out.fs HNF.out hb0 L.1 L.2
   clear Z N z Y X Q f1;by_cases hc:cd=0
   · subst hc;have d:=U0 (D.out.trans (X7 rfl));clear D;go_wp2;go_ret;exact ⟨⟨by rw [d.out];rfl,fun m' c=>by rw [d.out] at c;cases c;exact ⟨_,_,_,_,_,_,_,_,l.out X4⟩⟩,B1.out.setCell hR _⟩
   have hc':(cd==0)=false:=by simpa using hc
   have d:=U0 (D.out.trans (I7 hc));clear D l;go_wp2;go_ret;exact ⟨⟨by rw [d.out];rfl,fun m' c=>by rw [d.out] at c;cases c⟩,B1.out.setCell hR _⟩
 · have h0:=gW;have h1:=IV;have h2:=WU;have h3:=iV;clear J;show Calls prog 111 #[_,.iface 229 (.agg #[.string km.nm,.string km.tl,.string km.ar,.slice v ls.length O,.int .i64 c,.string t])] w _;have HXL:=U0 hxl;have HLK:Hid (o9 w v ls):=HLK.out;have HKO:=U0 (Ux (m:=km) (ls:=ls) (c:=c) (t:=t) I.out.ok.st);have HSK:=U0 (IJ (m:=km) (ls:=ls) (c:=c) (t:=t) I.out.ok.st);have HD4:Hid (dn m (og km ls c t)=_):=a1z;clear hxl;go_enter func111,ntmps111
   go_upto_region 16 with fail
   obtain ⟨y,g⟩:∃ q:World,q=w.alloc (.cells #[vS km.nm,vS km.tl,vS km.ar,vL v ls.length O,vI c,vS t] 229):=⟨_,rfl⟩;have f:Bw w y:=by rw [g];exact P6
   have o:Hid (Cl y w.heap.size 229 [vS km.nm,vS km.tl,vS km.ar,vL v ls.length O,vI c,vS t]):=by show Cl _ _ _ _;rw [g];exact Y4 w [_,_,_,_,_,_] 229
   rw [<- g];have W:=U0 (I.out.below f);clear g Y X Q;have HS:Hid (∀ u,Bw y u->u.cell? (aA R 2)=some (.pointer (some (aA H 0)))/\u.cell? (aW w 0)=some (vS km.nm)/\u.cell? (aW w 1)=some (vS km.tl)/\u.cell? (aW w 2)=some (vS km.ar)/\u.cell? (aW w 3)=some (vL v ls.length O)/\u.cell? (aW w 4)=some (vI c)/\u.cell? (aW w 5)=some (vS t)):=fun u hu=>by
    have h1:=W.out.cr.below hu W.out.cr.lt;have h2:=o.out.below hu o.out.lt;exact ⟨h1.cell 2,h2.cell 0,h2.cell 1,h2.cell 2,h2.cell 3,h2.cell 4,h2.cell 5⟩
   have j:Bw y y.drew:=(Z4 _ _).drew;refine wp_region_held_drew (S:=fun u=>u.cell? (aA R 2)=some (.pointer (some (aA H 0)))/\u.cell? (aW w 0)=some (vS km.nm)/\u.cell? (aW w 1)=some (vS km.tl)/\u.cell? (aW w 2)=some (vS km.ar)/\u.cell? (aW w 3)=some (vL v ls.length O)/\u.cell? (aW w 4)=some (vI c)/\u.cell? (aW w 5)=some (vS t)) Y2 (HS.out _ j) fun hH=>?_;refine Y0 0 ?_;refine Y0 1 ?_;refine Y0 2 ?_;refine Y0 3 ?_;refine Y0 4 ?_;refine Y0 5 ?_;refine Y0 6 ?_;refine Y0 7 ?_;refine Y0 8 ?_;refine Y0 9 ?_;have A:=U0 (W.out.below j);have LD:=U0 (l7 (l7 HLK.out f) j);have hgs:∀ i,(m.s.rs.getD i f_).gs.length<=1048576:=fun i=>G7 (qJ I.out.ok.st i) o6;have HC:=U0 (c157 B H bT bR bP m.s.wd m.s.ts m.s.rs rv km ls c t v O y.drew A.out.sh I.out.ok.st.1 (Dl I.out.ok.st) I.out.ok.st.2.1.1 I.out.ok.st.2.2.1 hgs HXL.out.2.2.1 HXL.out.2.2.2.1.1 HXL.out.2.2.2.1.2 HXL.out.2.2.2.2 LD.out);clear hgs;refine rq 10 fun K k=>?_;go_simp;refine HC.out.mono ?_;rintro e F ⟨⟨rfl,hKS⟩,hbB,hKF⟩;have BD:=U0 (((f.mono hb0).trans (j.mono (by have:=f.size;omega))).trans (hbB.mono I.out.hB));have CR1:Hid (Cl F R 159 [vI m.ep,vL fa m.fs.length fc,.pointer (some (aA H 0))]):=(hKF R 159 (Cb A.out.cr) o6).trans A.out.cr;have E:=(hKF w.heap.size 229 (Cb (o.out.below j o.out.lt)) o6).trans (o.out.below j o.out.lt);have E:Cl F w.heap.size 229 [vS km.nm,vS km.tl,vS km.ar,vL v ls.length O,vI c,vS t]:=E;have NF1:=U0 (Qq A.out.nf hbB.size (fun q hq=>hKF q 133 hq o6) (v_ b0));have HKS:=U0 hKS;have hH1:=CR1.out.cell 2;clear HC hKS hKF hbB hH;refine E8 k ⟨hH1,E.cell 0,E.cell 1,E.cell 2,E.cell 3,E.cell 4,E.cell 5⟩ fun hH=>?_;clear k K hH1 E;refine Y0 11 ?_;refine wdn ?_;clear hH HS o W A LD;obtain ⟨cd,hcd⟩:∃ cd,cd=a_ m.s.wd m.s.ts m.s.rs km ls c t:=⟨_,rfl⟩;rw [<- hcd] at HKO HSK HKS ⊢;clear hcd;by_cases hc:cd=0
   · subst hc;have d:Hid (dn m (og km ls c t)=some ⟨m.ep,m.fs,⟨m.s.wd,(Y7 m.s.wd (Jl ls c t) (m.s.ts,true)).1,Hf m.s.rs (qh m.s.wd km ls c t)⟩⟩):=by
      have h:=HD4.out;rw [HKO.out.1 rfl] at h;exact h.trans (X7 rfl)
     obtain ⟨rv1,hs1⟩:=HKS.out rfl;have IF:Hid (ImM b0 R ⟨m.ep,m.fs,⟨m.s.wd,(Y7 m.s.wd (Jl ls c t) (m.s.ts,true)).1,Hf m.s.rs (qh m.s.wd km ls c t)⟩⟩ F):=⟨_,_,_,_,_,_,_,_,⟨⟨e0,e1,I.out.ok.fl,I.out.ok.fz,HSK.out rfl⟩,CR1.out,NF1.out,hs1,I.out.hB,hR⟩⟩;clear hs1 HKS HKO HSK HD4;go_wp2;go_ret;exact ⟨⟨by rw [d.out];rfl,fun m' c=>by rw [d.out] at c;cases c;exact IF.out⟩,BD.out⟩
   have hc':(cd==0)=false:=by simpa using hc
   have d:Hid (dn m (og km ls c t)=none):=by
    have h:=HD4.out;rw [HKO.out.2 hc] at h;exact h.trans (I7 hc)
   clear HKS HKO HSK HD4;go_wp2;go_ret;exact ⟨⟨by rw [d.out];rfl,fun m' c=>by rw [d.out] at c;cases c⟩,BD.out⟩
 have h0:=iU;have h1:=PW;have h2:=aU;have h3:=CW;have h4:=NV;have f2:=J 2;clear J;show Calls prog 111 #[_,.iface 232 (.agg #[])] w _;have d:Hid (dn m P_=_):=a1n;obtain ⟨pl,hC,_⟩:=I.out.sh;have hw0:=hC.blk 0 _ rfl;have hHl:=hC.lt;clear hC;go_enter func111,ntmps111
 go_upto_region 19 with fail
 obtain ⟨y,g⟩:∃ q:World,q=w.alloc (.cells #[] 232):=⟨_,rfl⟩;have f:Bw w y:=by rw [g];exact P6
 rw [<- g];have q2:=(f.cell (p:=(aA R 2)) hRl).trans Q;have q0:=(f.cell (p:=(aA H 0)) hHl).trans hw0;have W:=U0 (I.out.below f);have hys:=f.size;clear g Y X Q f2 hw0
 go_wp2_with fail
 refine (c109 ⟨m.s.wd,[],[]⟩ none none 0 0 y (Gq I.out.ok.st.1) (KR (Gq I.out.ok.st.1)) ⟨.inl rfl,.inl rfl⟩ (x9 hmx f)).mono ?_;rintro e w2 ⟨⟨H',bT',bR',bP',rv',rfl,L⟩,hb2⟩;have l:=U0 (W.out.below hb2);have I3:=U0 (l.out.ts (s':=⟨m.s.wd,[],[]⟩) L O0 (Gq I.out.ok.st.1));have p2:=l.out.cr.cell 2;have pf:=l.out.cr.opn 2;simp only [@gz Value] at p2;have B2:=U0 ((f.mono hb0).trans (hb2.mono O0));clear L hb2 q2 q0;go_wp2;go_ret;exact ⟨⟨by rw [d.out];rfl,fun m' c=>by rw [d.out] at c;cases c;exact ⟨_,_,_,_,_,_,_,_,I3.out⟩⟩,B2.out.setCell hR _⟩
end Go.Proofs.YtchjpjmcnhjbcaaGreatDoor
namespace Go.Proofs.YtchjpjmcnhjbcaaGreatDoor
open Proofs.Tryz Go.RowKit
variable {w w':World} {b:Nat} {m:MS} {vs:List Value} {es:LB} {W cd:Int}
def MeO (w:World) (b:Nat) (m:MS) (vs:List Value):Prop:=MOk m/\∃ fa fc ta tc ra rc,vs=[.int .i64 0,.int .i64 m.ep,.slice fa m.fs.length fc,.int .i64 m.s.wd,.slice ta m.s.ts.length tc,.slice ra m.s.rs.length rc]/\T.Ht b w fa m.fs/\Td w b m.s.ts m.s.rs (.slice ta m.s.ts.length tc) (.slice ra m.s.rs.length rc)
def Rp7 (w:World) (es:LB) (W:Int) (e:Ending) (w':World):Prop:=∃ vs,e=.returned (.agg vs.toArray)/\((¬ Qw es W/\vs=[.int .i64 1,.int .i64 0,.slice none 0 0,.int .i64 0,.slice none 0 0,.slice none 0 0])\/(Qw es W/\∃ o,XF RE es (OX W) o/\((o=none/\vs=[.int .i64 2,.int .i64 0,.slice none 0 0,.int .i64 0,.slice none 0 0,.slice none 0 0])\/∃ m,o=some m/\MeO w' w.heap.size m vs)))
theorem MeO.keep {b':Nat} (h:MeO w b m vs) (d:w.heap.size<=w'.heap.size) (a:∀ q t,ng w q t->t≠95->w'.heap[q]?=w.heap[q]?) (c:b'<=b):MeO w' b' m vs:=by
 obtain ⟨h0,fa,fc,ta,tc,ra,rc,h1,h2,f⟩:=h;exact ⟨h0,fa,fc,ta,tc,ra,rc,h1,Qq h2 d (fun q e=>a q 133 e o6) c,xu (Kq f (fun q t hT ht=>a q t hT (by rcases ht with rfl | rfl | rfl <;> decide))) c⟩
theorem qP {u z:World} {a:Array Value} (hc:Cl u w.heap.size 95 [.int .i64 0,.int .i64 0,.slice none 0 0,.int .i64 0,.slice none 0 0,.slice none 0 0]) (g:Cl z w.heap.size 95 vs) (b:uy w.heap.size u z) (d:Bw w u) (hl:vs.length=6) (c:a.getD 4 undef=.pointer (some ⟨w.heap.size,0,none⟩)) (f:∀ z:World,u.heap.size<=z.heap.size->(∀ q t,ng u q t->t≠95->z.heap[q]?=u.heap[q]?)->Rp7 w es W (.returned (.agg vs.toArray)) z):bodyPost prog f70 (fun e w'=>Rp7 w es W e w'/\Bw w w') .ret ⟨a,[]⟩ z:=
 Y6 (v:=.agg vs.toArray) (Q8 (P:=prog) (ty:=95) rfl a z w.heap.size vs _ c g.blk underlying95 rfl (by rw [hl];kernel_rfl)) rfl ⟨f z (qj b.size.symm) (fun q t hT ht=>b.block q (fun e=>ht (Y8 (e▸hT) (Cb hc)))),d.trans (b.below H8)⟩
theorem c70 (a:OA) (cap:Nat) (es:LB) (W:Int) (w:World) (hl:es.length<=1048576) (hs:∀ i,(es.getD i ByteArray.empty).size<=1048576) (hat:P7 w a es) (hmx:Dc w):
 Calls prog 70 #[.slice a es.length cap,.int .i64 W] w fun e w'=>Rp7 w es W e w'/\Bw w w':=by
 have HAT:=U0 hat;have HSZ:=U0 hs;have HMX:=U0 hmx;clear hat hs hmx;go_enter func70,ntmps70
 go_upto_region 1 with fail
 obtain ⟨V,hV⟩:∃ V:World,V=w.alloc (.cells #[vO,vO,vN,vO,vN,vN] 95):=⟨_,rfl⟩;rw [<- hV];have P:Bw w V:=by rw [hV];exact P6
 have q:Hid (Cl V w.heap.size 95 [vO,vO,vN,vO,vN,vN]):=by show Cl _ _ _ _;rw [hV];exact Y4 w [vO,vO,vN,vO,vN,vN] 95
 have C:V.heap.size=w.heap.size+1:=by rw [hV];simp
 have HZ:=U0 C;clear hV C;have A:Hid (∀ v∈([vI 1,vO,vN,vO,vN,vN]:List Value),v.oneCell'=true):=Ij rfl rfl rfl rfl rfl rfl;by_cases hw:1<=W/\W<=8;rotate_left
 · have HBD:Hid (¬ Qw es W):=fun h=>hw h.1;have hd:=S9 hw
   go_wp2_with fail
   refine (oW W V).mono ?_;rintro e V1 ⟨rfl,hv1⟩;obtain rfl:=hv1.symm;rw [hd]
   go_wp2_with (refine y9 rfl 95 _ _ rfl (B:=w.heap.size) (j:=0) rfl (vs:=[vI 1,vO,vN,vO,vN,vN]) rfl q.out H8 A.out Y2 ?_;intro z g d)
   exact qP q.out g d P rfl rfl (fun z _ _=>⟨_,rfl,.inl ⟨HBD.out,rfl⟩⟩)
 have hd:=C_ hw
 go_wp2_with fail
 refine (oW W V).mono ?_;rintro e V1 ⟨rfl,hv1⟩;obtain rfl:=hv1.symm;rw [hd];by_cases hbig:1000<es.length
 · have HBD:Hid (¬ Qw es W):=fun h=>by have:=h.2;omega
   have c:(1000:Int)<es.length:=O0
   go_wp2_with (refine y9 rfl 95 _ _ rfl (B:=w.heap.size) (j:=0) rfl (vs:=[vI 1,vO,vN,vO,vN,vN]) rfl q.out H8 A.out Y2 ?_;intro z g d)
   exact qP q.out g d P rfl rfl (fun z _ _=>⟨_,rfl,.inl ⟨HBD.out,rfl⟩⟩)
 have c:¬ (1000:Int)<es.length:=O0;have HIN:Hid (Qw es W):=⟨hw,O0⟩
 go_upto_region 3 with fail
 go_wp2_with fail
 refine (c109 ⟨W,[],[]⟩ none none 0 0 V (Gq hw) (KR (Gq hw)) ⟨.inl rfl,.inl rfl⟩ (x9 HMX.out P)).mono ?_;rintro e y ⟨⟨H,bT,bR,bP,rv,rfl,hsh⟩,o⟩;have HSH:=U0 hsh;have b2:=X5 P o;have r:=U0 (q.out.below o q.out.lt);have hV2:w.heap.size+1<=y.heap.size:=by have:=o.size;have:=HZ.out;omega
 have HVB:=U0 (qj HZ.out.symm);clear hsh o q hd
 go_upto_region 4 with fail
 obtain ⟨U,O⟩:∃ U:World,U=y.alloc (.cells #[vO,vN,.pointer (some (aA H 0))] 159):=⟨_,rfl⟩;rw [<- O];have Q:Bw y U:=by rw [O];exact P6
 have HI:Hid (ImM (w.heap.size+1) y.heap.size (OX W) U):=by
  refine ⟨none,0,H,V.heap.size,bT,bR,bP,rv,a1x hw,?_,⟨.inl rfl,.inl rfl⟩,HSH.out.below' Q,HVB.out,hV2⟩;rw [O];exact Y4 y [_,_,_] 159
 have CU:=U0 (r.out.below Q r.out.lt);have HB:=U0 (X5 b2 Q);clear O Q r b2 HSH c;generalize y.heap.size=R at*
 go_wp2_with fail
 go_loopw [25] (fun i wr=>∃ (k:Nat) (f:Nat->g_) (m:MS),i=.int .i64 k/\k<=es.length/\Hid (∀ j,j<k->RE (eL es j) (f j) true)/\Hid (rn f (OX W) k=some m)/\Hid (Below w.heap.size w wr)/\Hid (Cl wr w.heap.size 95 [.int .i64 0,.int .i64 0,.slice none 0 0,.int .i64 0,.slice none 0 0,.slice none 0 0])/\Hid (ImM (w.heap.size+1) R m wr)) (fun i _=>es.length - (RowKit.intOf i).toNat)
 case atStart=>exact ⟨0,fun _=>Di,_,rfl,J4 _,fun j h=>absurd h (J8 _),rfl,HB,CU,HI⟩
 obtain ⟨k,f,m,rfl,hk,I,F,L,J,X⟩:=hrel;clear HI CU HB;by_cases N:k<es.length;rotate_left
 · obtain rfl:k=es.length:=O0;obtain ⟨fa,fc,H1,t,bT1,bR1,bP1,rv1,E⟩:=X.out;have bd:Bw wr wr.drew:=(Z4 _ _).drew;have n:=U0 (E.below bd);have CD:=U0 (J.out.below bd J.out.lt);have BD:=U0 (X5 L.out bd);clear E X
   go_upto_region 11 with fail
   refine wp_region_held_drew (S:=fun u=>u.cell? (aA R 0)=some (vI m.ep)/\u.cell? (aA R 1)=some (vL fa m.fs.length fc)/\u.cell? (aA R 2)=some (.pointer (some (aA H1 0)))) Y2 ⟨n.out.cr.cell 0,n.out.cr.cell 1,n.out.cr.cell 2⟩ fun hH=>?_;refine Y0 0 ?_;refine Y0 1 ?_;refine Y0 2 ?_;refine Y0 3 ?_;refine Y0 4 ?_;refine Y0 5 ?_;have a5i:=U0 (a2r t H1 bT1 bR1 bP1 m.s.wd m.s.ts m.s.rs rv1 wr.drew n.out.sh n.out.ok.st.1 (G7 n.out.ok.st.2.1.1 o6) (G7 n.out.ok.st.2.2.1 o6) (fun i=>G7 (qJ n.out.ok.st i) o6));refine rq 6 fun K D=>?_;go_simp;refine a5i.out.mono ?_;rintro e Z ⟨⟨ta,tc,ra,rc,rfl,hso⟩,c⟩;have l:=U0 (n.out.below c);have p:=U0 (CD.out.below c CD.out.lt);have B1w:=U0 (X5 BD.out c);have HSO:=U0 hso;clear a5i hso c hH;refine E8 D ⟨l.out.cr.cell 0,l.out.cr.cell 1,l.out.cr.cell 2⟩ fun hH=>?_;clear D K;refine Y0 7 ?_;refine rq 8 fun K D=>?_;refine t_ rfl 95 _ _ rfl (B:=w.heap.size) (j:=0) rfl (vs:=[vO,vI m.ep,vL fa m.fs.length fc,vI m.s.wd,vL ta m.s.ts.length tc,vL ra m.s.rs.length rc]) rfl p.out H8 (Ij rfl rfl rfl rfl rfl rfl) Y2 ?_;intro z g d;have CZ:=U0 g;have OZ:=U0 d;have hRR:R≠w.heap.size:=by have:=l.out.hR;omega
   have c3:=l.out.cr.on d hRR;clear hH g d;refine E8 D ⟨c3.cell 0,c3.cell 1,c3.cell 2⟩ fun hH=>?_;clear D K c3;refine wdn ?_;clear hH
   go_wp2_with fail
   have HME:Hid (MeO Z w.heap.size m [vO,vI m.ep,vL fa m.fs.length fc,vI m.s.wd,vL ta m.s.ts.length tc,vL ra m.s.rs.length rc]):=⟨l.out.ok,fa,fc,ta,tc,ra,rc,rfl,Qq l.out.nf H8 (fun _ _=>rfl) O0,xu HSO.out BD.out.size⟩;exact qP p.out CZ.out OZ.out B1w.out rfl rfl (fun z hz1 hz2=>⟨_,rfl,.inr ⟨HIN.out,_,wO I.out F.out,.inr ⟨m,rfl,HME.out.keep hz1 hz2 H8⟩⟩⟩)
 obtain ⟨b,off,hst⟩:=K_ (U5 HAT.out L.out);obtain ⟨rfl,hbw,hce⟩:=Cc hst N;have hc0:=hce k N;clear hce;have HRD:=U0 (a2F (es.getD k ByteArray.empty) wr (HSZ.out k) (x9 HMX.out L.out));have HEL:Hid ((es.getD k ByteArray.empty).data.toList=eL es k):=rfl;generalize es.getD k ByteArray.empty=s at*
 go_upto_region 7 with fail
 go_wp2_with fail
 refine HRD.out.mono ?_;rintro e Z ⟨hx,c⟩;rw [HEL.out] at hx;obtain ⟨fa,fc,H1,t,bT1,bR1,bP1,rv1,E⟩:=X.out;have l:=U0 (E.below c);have t:=U0 (X5 L.out c);have p:=U0 (J.out.below c J.out.lt);clear HRD E X hc0 J L c;rcases hx with ⟨rfl,C⟩ | ⟨x,ai,ci,rfl,hx,_,hxl,hlk⟩
 · have HBAD:=U0 (C Di);have A:Hid (∀ v∈([vI 2,vO,vN,vO,vN,vN]:List Value),v.oneCell'=true):=Ij rfl rfl rfl rfl rfl rfl;clear C
   go_wp2_with (refine y9 rfl 95 _ _ rfl (B:=w.heap.size) (j:=0) rfl (vs:=[vI 2,vO,vN,vO,vN,vN]) rfl p.out H8 A.out Y2 ?_;intro z g d)
   exact qP p.out g d t.out rfl rfl (fun z _ _=>⟨_,rfl,.inr ⟨HIN.out,_,eY N I.out F.out HBAD.out,.inl ⟨rfl,rfl⟩⟩⟩)
 have HX:=U0 hx;have HCD:=U0 (a3R (w.heap.size+1) R m x ai ci Z ⟨_,_,_,_,_,_,_,_,l.out⟩ (G7 (Nat.succ_le_of_lt p.out.lt) H8) (x9 HMX.out t.out) (hx.1 rfl).1 hxl hlk.at');clear hx hxl hlk;generalize qU x ai ci=xv at*
 go_upto_region 8 with fail
 go_wp2_with fail
 refine HCD.out.mono ?_;rintro e w2 ⟨⟨rfl,hm2⟩,o⟩;have HM2:=U0 hm2;have r:=U0 (p.out.below o O0);have B2:=U0 (t.out.trans (o.mono O0));clear HCD hm2 o p t l
 cases hd:dn m x with
 | none=>
  have Y:=U0 hd;have A:Hid (∀ v∈([vI 2,vO,vN,vO,vN,vN]:List Value),v.oneCell'=true):=Ij rfl rfl rfl rfl rfl rfl;clear hd HM2
  go_wp2_with (refine y9 rfl 95 _ _ rfl (B:=w.heap.size) (j:=0) rfl (vs:=[vI 2,vO,vN,vO,vN,vN]) rfl r.out H8 A.out Y2 ?_;intro z g d)
  exact qP r.out g d B2.out rfl rfl (fun z _ _=>⟨_,rfl,.inr ⟨HIN.out,_,JO N I.out F.out HX.out Y.out,.inl ⟨rfl,rfl⟩⟩⟩)
 | some m'=>
  have Y:=U0 hd;have HMM:=U0 (HM2.out m' hd);clear hd HM2;go_wp2;go_roundw
  case rel=>exact ⟨k+1,upd f k x,m',by go_num,O0,(Ox I.out F.out HX.out Y.out).1,(Ox I.out F.out HX.out Y.out).2,B2,r,HMM⟩
  case measure=>simp [RowKit.intOf];omega
structure Sml (m:MS):Prop where
 fl:m.fs.length<=40
 tl:m.s.ts.length<=300
 rl:m.s.rs.length<=150
 gl:∀ i,(m.s.rs.getD i f_).gs.length<=1000
 gz:Px m.s.rs<=150000
def Rd (w:World) (cd:Int) (m:MS) (vs:List Value):Prop:=∃ fa fc ta tc ra rc,vs=[.int .i64 cd,.int .i64 m.ep,.slice fa m.fs.length fc,.int .i64 m.s.wd,.slice ta m.s.ts.length tc,.slice ra m.s.rs.length rc]/\T.G6 w fa m.fs/\Ig w ta ra m.s
def Me (w:World) (b:Nat) (cd:Int) (m:MS) (vs:List Value):Prop:=∃ fa fc ta tc ra rc,vs=[.int .i64 cd,.int .i64 m.ep,.slice fa m.fs.length fc,.int .i64 m.s.wd,.slice ta m.s.ts.length tc,.slice ra m.s.rs.length rc]/\T.Ht b w fa m.fs/\Td w b m.s.ts m.s.rs (.slice ta m.s.ts.length tc) (.slice ra m.s.rs.length rc)
def DX:MS:=⟨0,[],⟨0,[],[]⟩⟩
def Out (R:List UInt8->g_->Bool->Prop) (es:LB) (W:Int) (cd:Int) (m:MS):Prop:=Sml m/\((¬ Qw es W/\cd=1/\m=DX)\/(Qw es W/\∃ o,XF R es (OX W) o/\((o=none/\cd=2/\m=DX)\/(o=some m/\cd=0))))
theorem vV {c:Int} {m':MS} (h:Out RES es W cd m) (a:Out RE es W c m'):c=cd/\m'=m:=by
 obtain ⟨_,h⟩:=h;obtain ⟨_,a⟩:=a;rcases h with ⟨h1,rfl,rfl⟩ | ⟨h1,o,h2,e⟩
 · rcases a with ⟨_,rfl,rfl⟩ | ⟨k,_⟩
   · exact ⟨rfl,rfl⟩
   exact absurd k h1
 rcases a with ⟨k,_⟩ | ⟨_,o',d,b⟩
 · exact absurd h1 k
 have:=UY h2 d;subst this;rcases e with ⟨rfl,rfl,rfl⟩ | ⟨rfl,rfl⟩
 · rcases b with ⟨_,rfl,rfl⟩ | ⟨k,_⟩
   · exact ⟨rfl,rfl⟩
   cases k
 rcases b with ⟨k,_⟩ | ⟨k,rfl⟩
 · cases k
 exact ⟨rfl,(w_ k).symm⟩
theorem qZ (rs:List R3) (h:∀ x∈rs,x.gs.length<=1000):Px rs<=rs.length*1000:=by
 induction rs with
 | nil=>decide
 | cons x r ih=>
  have:=ih (fun y a=>h y (Rf _ a));have hx:=h x (Zp ..);unfold Px at this ⊢;simp only [Hq,List.sum_cons,o_];omega
theorem KP (h:MOk m):Sml m:=by
 have h1:=h.st.2.1.1;have h2:=h.st.2.2.1;have a:=qJ h.st;refine ⟨h.fl,h1,h2,a,G7 (qZ _ (fun x hx=>?_)) O0⟩;obtain ⟨i,b,rfl⟩:=Zd hx;have:=a i
 rwa [show m.s.rs.getD i f_=m.s.rs[i] from by simp [List.getD,b]] at this
theorem YK:Sml DX:=⟨o6,o6,o6,fun i=>by show (0:Nat)<=1000;omega,o6⟩
theorem a0S (w:World) (b:Nat) (cd:Int):Me w b cd DX [.int .i64 cd,.int .i64 0,.slice none 0 0,.int .i64 0,.slice none 0 0,.slice none 0 0]:=⟨none,0,none,0,none,0,rfl,⟨.inl rfl,.inl rfl⟩,Np _ _⟩
theorem Me.rd (h:Me w b cd m vs):Rd w cd m vs:=by
 obtain ⟨fa,fc,ta,tc,ra,rc,h1,h2,a⟩:=h;exact ⟨fa,fc,ta,tc,ra,rc,h1,h2.1,vz a⟩
theorem Rd.below (h:Rd w cd m vs) (a:Bw w w'):Rd w' cd m vs:=by
 obtain ⟨fa,fc,ta,tc,ra,rc,h1,h2,b⟩:=h;exact ⟨fa,fc,ta,tc,ra,rc,h1,T.J5 h2 a,b.below a⟩
theorem Me.keep (h:Me w b cd m vs) (c:w.heap.size<=w'.heap.size) (d:∀ q,b<=q->q<w.heap.size->w'.heap[q]?=w.heap[q]?):Me w' b cd m vs:=by
 obtain ⟨fa,fc,ta,tc,ra,rc,h1,h2,a⟩:=h;refine ⟨fa,fc,ta,tc,ra,rc,h1,?_,a.keep d⟩;obtain ⟨hf,h⟩:=h2;rcases h with h0 | ⟨g,rfl,f,ho,ht⟩
 · exact ⟨.inl h0,.inl h0⟩
 have e:=d g f ho.1;refine ⟨?_,.inr ⟨g,rfl,f,⟨O9 ho.1 c,fun j k=>by rw [Ul e];exact ho.2.1 j k,fun j=>by rw [EQ e];exact ho.2.2 j⟩,?_⟩⟩
 · rcases hf with h0 | ⟨b,off,h1,h2,a⟩
   · exact .inl h0
   injection h1 with h1;injection h1 with h1 h4;subst h1 h4;exact .inr ⟨g,0,rfl,O9 h2 c,fun i l=>by rw [Ul e,Ul e];exact a i l⟩
 obtain ⟨cur,fr,hc⟩:=ht;exact ⟨cur,fr,e.trans hc⟩
theorem a3V (a:OA) (c:Nat) (es:LB) (W:Int) (w:World) (hl:es.length<=1048576) (d:∀ i,(es.getD i ByteArray.empty).size<=1048576) (j:P7 w a es) (f:Dc w):
 Calls prog 70 #[.slice a es.length c,.int .i64 W] w fun e w'=>(∃ cd m vs,e=.returned (.agg vs.toArray)/\Out RE es W cd m/\Me w' w.heap.size cd m vs)/\Bw w w':=by
 refine (c70 a c es W w hl d j f).mono ?_;rintro e w' ⟨⟨vs,rfl,h⟩,g⟩;refine ⟨?_,g⟩;rcases h with ⟨h1,rfl⟩ | ⟨h1,o,h2,b⟩
 · exact ⟨1,DX,_,rfl,⟨YK,.inl ⟨h1,rfl,rfl⟩⟩,a0S _ _ _⟩
 rcases b with ⟨rfl,rfl⟩ | ⟨m,rfl,b⟩
 · exact ⟨2,DX,_,rfl,⟨YK,.inr ⟨h1,_,h2,.inl ⟨rfl,rfl,rfl⟩⟩⟩,a0S _ _ _⟩
 obtain ⟨h0,k⟩:=b;exact ⟨0,m,_,rfl,⟨KP h0,.inr ⟨h1,_,h2,.inr ⟨rfl,rfl⟩⟩⟩,k⟩
def gY (b:Bs) (m:MS):Prop:=1<=b.ep/\b.ep=m.ep/\b.fs=m.fs/\b.s=m.s
theorem a1d (h:Sml m):m.s.ts.length<=1048576/\m.s.rs.length<=1048576/\∀ i,(m.s.rs.getD i f_).gs.length<=1048576:=⟨G7 h.tl o6,G7 h.rl o6,fun i=>G7 (h.gl i) o6⟩
theorem c73 (b:Bs) (q:Ba) (cd:Int) (m:MS) (fa ta ra:OA) (fc tc rc:Nat) (w:World) (hl:Gj b 1048576) (hm:Sml m) (A:Oh w b q) (hf:T.G6 w fa m.fs) (y:Ig w ta ra m.s):
 Calls prog 73 #[.agg (bsV b q).toArray,.agg #[.int .i64 cd,.int .i64 m.ep,.slice fa m.fs.length fc,.int .i64 m.s.wd,.slice ta m.s.ts.length tc,.slice ra m.s.rs.length rc]] w fun e w'=>Rb (gY b m) e/\Bw w w':=by
 have H:=U0 A;have F:=U0 hl;have E:=U0 hm;have L:=U0 hf;have K:=U0 y;clear A hl hm hf y;go_enter func73,ntmps73
 go_upto_region 1 with fail
 have d:=U0 (G9 (Y4 w (bsV b q) 47) (.cells #[vI cd,vI m.ep,vL fa m.fs.length fc,vI m.s.wd,vL ta m.s.ts.length tc,vL ra m.s.rs.length rc] 95));have c:Hid (Cl ((w.alloc (.cells (bsV b q).toArray 47)).alloc (.cells #[vI cd,vI m.ep,vL fa m.fs.length fc,vI m.s.wd,vL ta m.s.ts.length tc,vL ra m.s.rs.length rc] 95)) (w.heap.size+1) 95 [vI cd,vI m.ep,vL fa m.fs.length fc,vI m.s.wd,vL ta m.s.ts.length tc,vL ra m.s.rs.length rc]):=by show Cl _ _ _ _;have h:=Y4 (w.alloc (.cells (bsV b q).toArray 47)) [vI cd,vI m.ep,vL fa m.fs.length fc,vI m.s.wd,vL ta m.s.ts.length tc,vL ra m.s.rs.length rc] 95;simpa using h
 have f:Hid (Bw w ((w.alloc (.cells (bsV b q).toArray 47)).alloc (.cells #[vI cd,vI m.ep,vL fa m.fs.length fc,vI m.s.wd,vL ta m.s.ts.length tc,vL ra m.s.rs.length rc] 95))):=P6.alloc X4 _;generalize (w.alloc (.cells (bsV b q).toArray 47)).alloc (.cells #[vI cd,vI m.ep,vL fa m.fs.length fc,vI m.s.wd,vL ta m.s.ts.length tc,vL ra m.s.rs.length rc] 95)=V at*;have D:=d.out.cell 3;have C:=d.out.cell 7;have l:=d.out.cell 8;have k:=d.out.cell 9;have n:=d.out.cell 10;simp only [@gz Value] at D C l k n;have t:=c.out.cell 1;have B:=c.out.cell 2;have j:=c.out.cell 3;have i:=c.out.cell 4;have g:=c.out.cell 5;simp only [@gz Value] at t B j i g;by_cases h1:1<=b.ep;rotate_left
 · have o:Hid (¬ gY b m):=fun h=>h1 h.1;go_wp2;go_ret;exact ⟨G5 o.out,f.out⟩
 by_cases h2:b.ep=m.ep;rotate_left
 · have o:Hid (¬ gY b m):=fun h=>h2 h.2.1;go_wp2;go_ret;exact ⟨G5 o.out,f.out⟩
 rw [<- h2] at t
 go_wp2_with fail
 refine (a2c b.fs m.fs q.fa fa q.fc fc V F.out.fl (G7 E.out.fl o6) (T.J5 H.out.fs f.out) (T.J5 L.out f.out)).mono ?_;rintro e I ⟨⟨u,rfl,a⟩,p⟩;have x:=U0 (d.out.below p d.out.lt);have v:=U0 (c.out.below p c.out.lt);have r:=U0 (X5 f.out p);clear p D C l k n t B j i g d c f
 cases u with
 | false=>
  have o:Hid (¬ gY b m):=fun h=>by have:=a.2 h.2.2.1;cases this
  clear a;go_wp2;go_ret;exact ⟨G5 o.out,r.out⟩
 | true=>
 have J:=U0 (a.1 rfl);clear a;have l:=x.out.cell 8;have k:=x.out.cell 9;have n:=x.out.cell 10;simp only [@gz Value] at l k n;have j:=v.out.cell 3;have i:=v.out.cell 4;have g:=v.out.cell 5;simp only [@gz Value] at j i g
 go_wp2_with fail
 refine (a1I b.s m.s q.ta q.ra ta ra q.tc q.rc tc rc I (mX F.out.st) (a1d E.out) (H.out.st.below r.out) (K.out.below r.out)).mono ?_;rintro e w2 ⟨⟨u,rfl,a⟩,z⟩;have O:=U0 (X5 r.out z);have N:Hid (u=true↔gY b m):=⟨fun h=>⟨h1,h2,J.out,a.1 h⟩,fun h=>a.2 h.2.2.2⟩;clear a z l k n j i g;go_wp2;go_ret;exact ⟨⟨_,rfl,N.out⟩,O.out⟩
