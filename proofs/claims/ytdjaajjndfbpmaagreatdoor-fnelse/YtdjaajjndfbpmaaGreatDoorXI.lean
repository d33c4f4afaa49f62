import Derived.Test.YtdjaajjndfbpmaaGreatDoorXH
import Derived.Test.YtdjaajjndfbpmaaGreatDoorXE
import Derived.Deep.CutRange
set_option linter.unusedVariables false
set_option maxHeartbeats 8000000
set_option maxRecDepth 100000
namespace Go.Proofs.YtdjaajjndfbpmaaGreatDoor
open Proofs.Tryz
open Go.RowKit
open G (H6 jf)
open G.T (F2 P6 X3 F3)
structure EL (w:World) (B:Nat) (a:Option Addr) (cap:Nat) (fs:List F2) (da:Option Addr) (xs:List De):Prop where
 c:w.cell? ⟨B,0,none⟩=some (.slice a fs.length cap)
 lt:B<w.heap.size
 at_:F3 w a fs
 st:Std w
 ds:Jn w da xs
theorem EL.below {w w':World} {B:Nat} {a da:Option Addr} {cap:Nat} {fs:List F2} {xs:List De} (h:EL w B a cap fs da xs) (b:Below w.heap.size w w'):EL w' B a cap fs da xs:=⟨(b.cell (p:=⟨B,0,none⟩) h.lt).trans h.c,D7 h.lt b.size,G.T.U0 h.at_ b,h.st.below b,h.ds.below b⟩
structure OL (w:World) (B:Nat) (a:Option Addr) (cap:Nat) (fs:List F2) (da:Option Addr) (xs:List De) (O:Nat) (oa:Option Addr) (occ:Nat) (os:List F2) (ea:Option Addr) (es:List De):Prop where
 el:EL w B a cap fs da xs
 oc:w.cell? ⟨O,0,none⟩=some (.slice oa os.length occ)
 olt:O<w.heap.size
 oat:F3 w oa os
 eds:Jn w ea es
theorem OL.below {w w':World} {B:Nat} {a da:Option Addr} {cap:Nat} {fs:List F2} {xs:List De} {O:Nat} {oa:Option Addr} {occ:Nat} {os:List F2} {ea:Option Addr} {es:List De} (h:OL w B a cap fs da xs O oa occ os ea es) (b:Below w.heap.size w w'):OL w' B a cap fs da xs O oa occ os ea es:=⟨h.el.below b,(b.cell (p:=⟨O,0,none⟩) h.olt).trans h.oc,D7 h.olt b.size,G.T.U0 h.oat b,h.eds.below b⟩
structure FL (w:World) (B:Nat) (a:Option Addr) (cap:Nat) (fs:List F2) (da:Option Addr) (xs:List De) (F:Nat) (fn ft:ByteArray):Prop where
 el:EL w B a cap fs da xs
 cf:Cl w F 39 [.string fn,.string ft]
theorem FL.below {w w':World} {B:Nat} {a da:Option Addr} {cap:Nat} {fs:List F2} {xs:List De} {F:Nat} {fn ft:ByteArray} (h:FL w B a cap fs da xs F fn ft) (b:Below w.heap.size w w'):FL w' B a cap fs da xs F fn ft:=⟨h.el.below b,h.cf.below b h.cf.lt⟩
structure XL (w:World) (B:Nat) (a:Option Addr) (cap:Nat) (fs:List F2) (da:Option Addr) (xs:List De) (F:Nat) (fn ft:ByteArray) (X:Nat) (ga:Option Addr) (gc:Nat) (gs:List F2):Prop where
 fl:FL w B a cap fs da xs F fn ft
 cx:Cl w X 25 [.slice ga gs.length gc]
 bZ:F3 w ga gs
theorem XL.below {w w':World} {B:Nat} {a da:Option Addr} {cap:Nat} {fs:List F2} {xs:List De} {F:Nat} {fn ft:ByteArray} {X:Nat} {ga:Option Addr} {gc:Nat} {gs:List F2} (h:XL w B a cap fs da xs F fn ft X ga gc gs) (b:Below w.heap.size w w'):XL w' B a cap fs da xs F fn ft X ga gc gs:=⟨h.fl.below b,h.cx.below b h.cx.lt,G.T.U0 h.bZ b⟩
theorem LD:G.Rf.toList=[112,108,97,110]:=by rw [I7];rfl
def N1 (fn:ByteArray) (ms:List M3) (k:Nat):Prop:=fn≠G.Rf/\∀ j,j<k->(ms.getD j N7).nm≠fn
def DN (fn:ByteArray) (d:Dd):Prop:=d.nm≠fn/\∀ i,i<d.ls.length->(d.ls.getD i M.Ga).nm≠fn
def N2 (fn:ByteArray) (ms:List M3) (xs:List De) (k:Nat):Prop:=N1 fn ms ms.length/\∀ j,j<k->DN fn (xs.getD j Pg).d
theorem eH {fs b:List F2} {ms:List M3} {fn ft:ByteArray} {xs:List De} (h:Qh fs ⟨fn,ft⟩ b\/b=fs) (n:H6 fs ms) (f:N2 fn ms xs xs.length) (k:GA fs xs):GA b xs:=by
 rcases h with h | rfl
 · refine yJ h n (fun c=>?_) k
   rcases c with c | ⟨m,o,e⟩ | ⟨d,p,c⟩
   · exact f.1.1 c
   · obtain ⟨i,a,rfl⟩:=Lb o
     exact f.1.2 i a (by rw [show ms.getD i N7=ms[i] from by simp [List.getD,a]];exact e)
   obtain ⟨x,hx,rfl⟩:=D9.1 p;obtain ⟨i,a,rfl⟩:=Lb hx;have h2:=f.2 i a;rw [show xs.getD i Pg=xs[i] from by simp [List.getD,a]] at h2;rcases c with c | ⟨y,l,c⟩
   · exact h2.1 c
   obtain ⟨j,g,rfl⟩:=Lb l;exact h2.2 j g (by rw [show xs[i].d.ls.getD j M.Ga=xs[i].d.ls[j] from by simp [List.getD,g]];exact c)
 exact k
theorem pg {w u v:World} (h:Below w.heap.size w u) (k:Below u.heap.size u v):Below w.heap.size w v:=bT h k
theorem sN {P:Prop} {e:Ending} (h:Xo P e) (k:P):e=.returned (.bool true):=by
 obtain ⟨b,rfl,h⟩:=h;rw [h.2 k]
theorem EO {P:Prop} {e:Ending} (h:Xo P e) (k:¬ P):e=.returned (.bool false):=by
 obtain ⟨b,rfl,h⟩:=h;cases b
 · rfl
 exact absurd (h.1 rfl) k
theorem Ku {P:Prop} {b:Bool} {e:Ending} (h:b=true↔P) (k:Xo P e):e=.returned (.bool b):=by
 obtain ⟨a,rfl,k⟩:=k;have:a=b:=by rw [Bool.eq_iff_iff,k,h]
 rw [this]
theorem mh {xs:List De} (h:YJ xs):∀ x∈xs,x.d.ls.length<=15/\x.d.nm.size<=1048576:=fun x hx=>⟨(h.2 x hx).1,by have:=(h.2 x hx).2;omega⟩
theorem c3 (a:Option Addr) (L cap:Nat) (a':Option Addr) (L' cap':Nat) (w:World) (hcap:L<=cap) (ZW:L'<=cap') (h:BytesAt w a L) (h':BytesAt w a' L') (hst:Std w):
 Calls prog 3 #[.slice a L cap,.slice a' L' cap'] w fun e w'=>e=.returned (.bool true)/\Below w.heap.size w w':=by
 have zS:=Q0 h;have mW:=Q0 h';have HST:=Q0 hst;clear h h' hst;by_cases hL:L<=1048576;rotate_left
 · have hL':(1048576:Int)<(L:Int):=O0
   go_enter func3,ntmps3;go_wp2;go_ret;exact ⟨rfl,F4 _ _⟩
 have hL':¬ (1048576:Int)<(L:Int):=O0;by_cases hM:L'<=1048576;rotate_left
 · have hM':(1048576:Int)<(L':Int):=O0
   go_enter func3,ntmps3;go_wp2;go_ret;exact ⟨rfl,F4 _ _⟩
 have hM':¬ (1048576:Int)<(L':Int):=O0;go_enter func3,ntmps3
 go_wp2_with fail
 refine (c4 a L cap w hL hcap zS.out).mono ?_;rintro e w1 ⟨⟨v,nm,rfl,⟨ta,tc,fs,rfl,hfa,hfl,hfx⟩,hnm⟩,C⟩;have Y:Hid (∀ i,(fs.getD i P6).le 1048576):=fun i=>⟨Z4 (ll hfx i).1 O0,Z4 (ll hfx i).2 O0⟩;have YY:=Q0 hfx;have DT:=Q0 hfa;have HB1:=Q0 C;clear hfa hfx C
 go_wp2_with fail
 obtain ⟨w2,hw2⟩:∃ u:World,u=w1.alloc (.cells #[.slice ta fs.length tc] 25):=⟨_,rfl⟩;have U:Below w1.heap.size w1 w2:=by rw [hw2];exact bA
 have C2:Hid (Cl w2 w1.heap.size 25 [.slice ta fs.length tc]):=by show Cl _ _ _ _;rw [hw2];exact U1 w1 _ 25
 have q:=Q0 (pg HB1.out U);have HA2:=Q0 (G.T.U0 DT.out U);have HS2:=Q0 (HST.out.below q.out);rw [<- hw2];clear hw2 U DT HB1;generalize w1.heap.size=B at*;refine (wQ ta tc fs nm w2 O0 Y.out HA2.out O0 HS2.out).mono ?_;rintro e w3 ⟨⟨v,xs,rfl,hdr,hds⟩,W⟩;obtain ⟨da,dc,rfl,hda⟩:=jG hdr;have IW:=Q0 hds;have HDK:=Q0 (yF hds);have hxl:=HDK.out.1;have C3:=C2.out.below W C2.out.lt;have H3:Hid (EL w3 B ta tc fs da xs):=⟨C3.cell 0,C3.lt,G.T.U0 HA2.out W,HS2.out.below W,hda⟩;have P:=Q0 (pg q.out W);clear hdr hds W hda C3 C2 q HA2 HS2;have q3:=H3.out.c
 go_wp2_with fail
 clear q3;refine (XP ta tc fs nm w3 O0 Y.out H3.out.at_ O0).mono ?_;rintro e w4 ⟨⟨v,ys,rfl,hdr,hds⟩,hb4⟩;obtain ⟨sa,sc,rfl,hsa⟩:=jG hdr;have H4:=Q0 (H3.out.below hb4);have nW:=Q0 (pg P.out hb4);have HC:=Q0 (c6 da dc xs sa sc ys w4 (jI IW.out hds) hxl (fun x hx=>(HDK.out.2 x hx).1) H4.out.ds hsa);clear hdr hds hb4 hsa H3 P
 go_wp2_with fail
 refine HC.out.mono ?_;rintro e w5 ⟨rfl,hb5⟩;have H5:=Q0 (H4.out.below hb5);have HW5:=Q0 (pg nW.out hb5);clear HC hb5 H4 nW;have q5:=H5.out.c
 go_wp2_with fail
 clear q5;refine (G.T.c8 ta tc fs w5 O0 Y.out H5.out.at_).mono ?_;rintro e w6 ⟨⟨b,rfl,l⟩,hb6⟩;have N:=Q0 (H5.out.below hb6);have aX:=Q0 (pg HW5.out hb6);have HT:=Q0 l;clear l hb6 H5 HW5;have q6:=N.out.c;cases b
 · have hno:¬ X3 fs:=fun c=>by have:=HT.out.2 c;cases this
   obtain rfl:xs=[]:=by
    rcases IW.out with ⟨c,_⟩ | ⟨_,c⟩
    · exact absurd c hno
    simpa using c
   clear HT
   go_wp2_with fail
   refine (c9 ta tc fs da dc [] w6 O0 Y.out N.out.at_ X0 (fun x h=>nomatch h) N.out.ds N.out.st).mono ?_;rintro e w7 ⟨o,EU⟩;obtain rfl:=EO o (fun c=>hno c.1);have HW7:=Q0 (pg aX.out EU);clear o EU;go_wp2;go_ret;exact ⟨rfl,HW7.out⟩
 have XZ:=Q0 (HT.out.1 rfl);clear HT;rcases Xg xs.length with hx0 | hx0
 · as_aux_lemma=>
   obtain rfl:=Ce.1 hx0
   go_upto_region 10 with fail
   obtain ⟨x0,hx0⟩:∃ x:World,x=w6.drew:=⟨_,rfl⟩;have hb0:Below w6.heap.size w6 x0:=by rw [hx0];exact (F4 _ _).drew
   have KV:=Q0 (N.out.below hb0);have I:=Q0 (pg aX.out hb0);refine F7 (S:=fun u=>u.cell? ⟨B,0,none⟩=some (.slice ta fs.length tc)) U2 N.out.c fun f=>?_;rw [<- hx0] at f ⊢;clear hx0 hb0 N aX q6;refine tq 0 f ?_;simp only [qq];refine tq 1 f ?_;simp only [qq];refine tq 3 f ?_;simp only [qq];refine tq 4 f ?_;simp only [qq];refine rq 2 fun K n=>?_;go_simp;refine (c10 ta tc fs nm x0 O0 Y.out KV.out.at_ O0 KV.out.st).mono ?_;rintro e x1 ⟨⟨d1,hd1,rfl⟩,C⟩;have jU:=Q0 (KV.out.below C);have E:=Q0 (pg I.out C);unfold Jy;go_simp;clear f KV I C;refine Z6 n jU.out.c fun f=>?_;clear n K;refine rq 5 fun K n=>?_;go_simp;refine (c11 ta tc fs nm x1 O0 Y.out jU.out.at_ O0).mono ?_;rintro e x2 ⟨⟨d2,hd2,rfl⟩,U⟩;have HE2:=Q0 (jU.out.below U);have q:=Q0 (pg E.out U);unfold Jy;rw [<- xG hd1 hd2];go_simp;clear f jU E U hd1 hd2;refine Z6 n HE2.out.c fun f=>?_;clear n K;refine tq (v:=.bool true) 6 f ?_ (hv:=by intro u hu;simp [go_sem]);simp only [qq];refine tq 7 f ?_;simp only [qq];refine a_ ?_;clear f;go_wp2;go_ret;exact ⟨rfl,q.out⟩
 obtain ⟨hn,ms,hp,hd⟩:J2 nm.data.toList=true/\∃ ms,H6 fs ms/\Wh (P5 fs ms) nm (xs.map (·.d)):=by
  rcases IW.out with ⟨_,h2,ms,h3,h4⟩ | ⟨_,c⟩
  · exact ⟨h2,ms,h3,h4⟩
  have:xs=[]:=by simpa using c
  rw [this] at hx0;exact absurd hx0 X0
 have cZ:=Q0 hn;have HP:=Q0 hp;have HD:=Q0 hd;clear hn hp hd IW;have hx1:((xs.length:Int)==0)=false:=beq_false_of_ne O0
 go_upto_region 11 with fail
 obtain ⟨x0,hx0'⟩:∃ x:World,x=w6.drew:=⟨_,rfl⟩;have hb0:Below w6.heap.size w6 x0:=by rw [hx0'];exact (F4 _ _).drew
 have KV:=Q0 (N.out.below hb0);have I:=Q0 (pg aX.out hb0);refine F7 (S:=fun u=>u.cell? ⟨B,0,none⟩=some (.slice ta fs.length tc)) U2 N.out.c fun f=>?_;rw [<- hx0'] at f ⊢;clear hx0' hb0 N aX q6 hx1;refine tq 0 f ?_;simp only [qq];refine tq 1 f ?_;simp only [qq];refine rq 2 fun K n=>?_;go_simp;refine (c9 ta tc fs da dc xs x0 O0 Y.out KV.out.at_ hxl (mh HDK.out) KV.out.ds KV.out.st).mono ?_;rintro e x1 ⟨o,C⟩;obtain rfl:=sN o (aC XZ.out HP.out cZ.out HD.out);have jU:=Q0 (KV.out.below C);have E:=Q0 (pg I.out C);go_simp;clear f KV I C o;refine Z6 n jU.out.c fun f=>?_;clear n K;refine tq 3 f ?_;simp only [qq];refine tq 4 f ?_;simp only [qq];refine tq 5 f ?_;simp only [qq];refine tq 6 f ?_;simp only [qq];refine tq 8 f ?_;simp only [qq];refine tq 9 f ?_;simp only [qq];refine rq 7 fun K n=>?_;go_simp;refine (c10 ta tc fs nm x1 O0 Y.out jU.out.at_ O0 jU.out.st).mono ?_;rintro e x2 ⟨⟨d1,hd1,rfl⟩,C⟩;have HE2:=Q0 (jU.out.below C);have q:=Q0 (pg E.out C);unfold Jy;go_simp;clear f jU E C;refine Z6 n HE2.out.c fun f=>?_;clear n K;refine rq 10 fun K n=>?_;go_simp;refine (c11 ta tc fs nm x2 O0 Y.out HE2.out.at_ O0).mono ?_;rintro e x3 ⟨⟨d2,hd2,rfl⟩,U⟩;have HE3:=Q0 (HE2.out.below U);have P:=Q0 (pg q.out U);unfold Jy;rw [<- xG hd1 hd2];have HWN:=Q0 hd1;go_simp;clear f HE2 q U hd2 hd1;refine Z6 n HE3.out.c fun f=>?_;clear n K;refine tq (v:=.bool false) 11 f ?_ (hv:=by intro u hu;simp [go_sem]);simp only [qq];refine tq 12 f ?_;simp only [qq];refine a_ ?_;clear f
 go_wp2_with fail
 refine (c12 a' L' cap' x3 hM ZW (Cc mW.out P.out)).mono ?_;rintro e x4 ⟨⟨ov,ea,ec,es,rfl,⟨oa,oc,os,rfl,hoa,hol,hox⟩,hes,hdk⟩,hb4⟩;have HOX:Hid (∀ i,(os.getD i P6).le 1048576):=fun i=>⟨Z4 (ll hox i).1 O0,Z4 (ll hox i).2 O0⟩;have HEK:=Q0 hdk;have HE4:=Q0 (HE3.out.below hb4);have nW:=Q0 (pg P.out hb4);obtain ⟨y0,hy0⟩:∃ y:World,y=(x4.alloc (.cells #[.slice oa os.length oc] 25)).drew:=⟨_,rfl⟩;have hb5:Below x4.heap.size x4 y0:=by rw [hy0];exact bA.drew
 have CO:Cl y0 x4.heap.size 25 [.slice oa os.length oc]:=by rw [hy0];exact U1 x4 _ 25
 have HO0:Hid (OL y0 B ta tc fs da xs x4.heap.size oa oc os ea es):=⟨HE4.out.below hb5,CO.cell 0,CO.lt,G.T.U0 hoa hb5,hes.below hb5⟩;have I:=Q0 (pg nW.out hb5);clear hox hdk hb4 hoa hes hb5 CO HE3 P HE4 nW zS
 go_upto_region 14 with fail
 generalize x4.heap.size=O at*;refine F7 (S:=fun u=>u.cell? ⟨O,0,none⟩=some (.slice oa os.length oc)) U2 (by rw [<- hy0];exact HO0.out.oc) fun f=>?_;rw [<- hy0] at f ⊢;clear hy0;refine tq 0 f ?_;simp only [qq];refine tq 1 f ?_;simp only [qq];refine tq 3 f ?_;simp only [qq];refine tq 4 f ?_;simp only [qq];refine rq 2 fun K n=>?_;go_simp;refine (c9 oa oc os da dc xs y0 O0 HOX.out HO0.out.oat hxl (mh HDK.out) HO0.out.el.ds HO0.out.el.st).mono ?_;rintro e y1 ⟨⟨b1,rfl,o⟩,l⟩;have HR:=Q0 o;have HO1:=Q0 (HO0.out.below l);have E:=Q0 (pg I.out l);go_simp;clear f HO0 I l o;refine Z6 n HO1.out.oc fun f=>?_;clear n K;refine rq 5 fun K n=>?_;go_simp;refine (c13 oa oc os da dc xs y1 O0 HOX.out HO1.out.oat hxl (mh HDK.out) HO1.out.el.ds).mono ?_;rintro e J ⟨o,l⟩;obtain rfl:=Ku HR.out o;have NS:=Q0 (HO1.out.below l);have q:=Q0 (pg E.out l);go_simp;clear f HO1 E l o;refine Z6 n NS.out.oc fun f=>?_;clear n K;refine tq (v:=.bool false) 6 f ?_ (hv:=by intro u hu;cases b1 <;> simp [go_sem]);simp only [qq];clear HR;refine tq 7 f ?_;simp only [qq];refine tq 8 f ?_;simp only [qq];refine tq 9 f ?_;simp only [qq];refine tq 11 f ?_;simp only [qq];refine tq 12 f ?_;simp only [qq];refine rq 10 fun K n=>?_;go_simp;refine (c9 oa oc os ea ec es J O0 HOX.out NS.out.oat HEK.out.1 (mh HEK.out) NS.out.eds NS.out.el.st).mono ?_;rintro e y3 ⟨⟨b2,rfl,o⟩,l⟩;have HR:=Q0 o;have dZ:=Q0 (NS.out.below l);have P:=Q0 (pg q.out l);go_simp;clear f NS q l o;refine Z6 n dZ.out.oc fun f=>?_;clear n K;refine rq 13 fun K n=>?_;go_simp;refine (c13 oa oc os ea ec es y3 O0 HOX.out dZ.out.oat HEK.out.1 (mh HEK.out) dZ.out.eds).mono ?_;rintro e y4 ⟨o,l⟩;obtain rfl:=Ku HR.out o;have lT:=Q0 (dZ.out.below l);have nW:=Q0 (pg P.out l);go_simp;clear f dZ P l o;refine Z6 n lT.out.oc fun f=>?_;clear n K;refine tq (v:=.bool false) 14 f ?_ (hv:=by intro u hu;cases b2 <;> simp [go_sem]);simp only [qq];refine tq 15 f ?_;simp only [qq];refine a_ ?_;clear f HR;have H4:=Q0 lT.out.el;clear lT HOX HEK
 go_wp2_with fail
 refine (c14 a' L' cap' y4 hM ZW (Cc mW.out nW.out)).mono ?_;rintro e z0 ⟨⟨ja,jn,jc,fn,ft,rfl,hfn,hft⟩,hb0⟩;have A:=Q0 (H4.out.below hb0);have I:=Q0 (pg nW.out hb0);clear hb0 H4 nW mW
 go_upto_region 17 with fail
 obtain ⟨z1,hz1⟩:∃ y:World,y=(z0.alloc (.cells #[.slice ja jn jc] 25)).alloc (.cells #[.string fn,.string ft] 39):=⟨_,rfl⟩;have C:Below z0.heap.size z0 z1:=by rw [hz1];exact dE _ _ _
 have CF:Cl z1 (z0.heap.size+1) 39 [.string fn,.string ft]:=by rw [hz1];exact Uf (xs:=[_,_]) X0
 have t:Hid (FL z1 B ta tc fs da xs (z0.heap.size+1) fn ft):=⟨A.out.below C,CF⟩;have E:=Q0 (pg I.out C);rw [<- hz1];clear hz1 C CF A I;generalize z0.heap.size+1=F at*;have q0:=t.out.el.c;have q1:=t.out.cf.cell 0;have q2:=t.out.cf.cell 1;dsimp only [List.getElem?_cons_zero,List.getElem?_cons_succ] at q1 q2
 go_wp2_with fail
 refine (c15 ta tc fs ⟨fn,ft⟩ z1 O0 (ll YY.out) ⟨hfn,hft⟩ t.out.el.at_).mono ?_;rintro e z2 ⟨⟨v,c,gs,rfl,hrow,hgl,hgm,hset⟩,U⟩;obtain ⟨ga,gc,rfl⟩:=Nc hrow;have PW:=Q0 (Wt hrow);have HGL:Hid (∀ i,(gs.getD i P6).le 1048576):=fun i=>by
  have:=ll (fs:=gs) (fun y hy=>by rcases hgm y hy with h | h;exact YY.out y h;rw [h];exact ⟨hfn,hft⟩) i;exact ⟨Z4 this.1 O0,Z4 this.2 O0⟩
 have HSO:=Q0 hset;have z:=Q0 (t.out.below U);have q:=Q0 (pg E.out U);clear q0 q1 q2 hrow hgm hset U t E;have q0:=z.out.el.c;have ql:=z.out.el.lt
 go_upto_if 109 with fail
 obtain ⟨X,hX⟩:∃ X,X=z2.heap.size:=⟨_,rfl⟩;rw [<- hX]
 go_cut [] from 19 (fun wx=>Hid (Below w.heap.size w wx)/\∃ xa Z Q,Hid (XL wx B ta tc fs da xs F fn ft X xa Z Q)/\Hid (Qh fs ⟨fn,ft⟩ Q\/Q=fs)/\Hid (∀ i,(Q.getD i P6).le 1048576)/\Q.length<=60)
 case first=>as_aux_lemma=>
  rcases Ie (c=0) with R | R
  · have HS2:=Q0 (HSO.out R)
    clear HSO;have hcb:(c !=0)=false:=by simpa using R
    go_wp2_with fail
    have W:Below z2.heap.size z2 (z2.alloc (.cells #[.slice ga gs.length gc] 25)):=bA
    go_meet
    case rel=>exact ⟨pg q.out W,ga,gc,gs,⟨z.out.below W,by rw [hX];exact U1 z2 _ 25,G.T.U0 PW.out W⟩,.inl HS2.out,HGL.out,O0⟩
  have hcb:(c !=0)=true:=by simpa using R
  subst hX
  go_wp2_with fail
  have W:Below z2.heap.size z2 (z2.alloc (.cells #[.slice ta fs.length tc] 25)):=bA
  go_meet
  case rel=>exact ⟨pg q.out W,ta,tc,fs,⟨z.out.below W,U1 z2 _ 25,(z.out.below W).el.at_⟩,.inr rfl,Y.out,hfl⟩
 obtain ⟨P,xa,Z,Q,h1,HXO,ET,h4⟩:=hcut;clear hX z q HSO PW HGL hgl q0 ql
 go_upto_region 20 with fail
 have A:=Q0 (h1.out.below (F4 _ wc).drew);have I:=Q0 (pg P.out (F4 _ wc).drew);clear h1 P;refine F7 (S:=fun u=>u.cell? ⟨X,0,none⟩=some (.slice xa Q.length Z)) U2 (A.out.cx.cell 0) fun f=>?_;generalize wc.drew=y0 at*;refine tq 0 f ?_;simp only [qq];refine tq 1 f ?_;simp only [qq];refine tq 3 f ?_;simp only [qq];refine tq 4 f ?_;simp only [qq];refine rq 2 fun K n=>?_;go_simp;refine (c9 xa Z Q da dc xs y0 O0 ET.out A.out.bZ hxl (mh HDK.out) A.out.fl.el.ds A.out.fl.el.st).mono ?_;rintro e y1 ⟨⟨bx,rfl,o⟩,l⟩;have HR:=Q0 o;have t:=Q0 (A.out.below l);have E:=Q0 (pg I.out l);go_simp;clear f A I l o;refine Z6 n (t.out.cx.cell 0) fun f=>?_;clear n K;refine rq 5 fun K n=>?_;go_simp;refine (c13 xa Z Q da dc xs y1 O0 ET.out t.out.bZ hxl (mh HDK.out) t.out.fl.el.ds).mono ?_;rintro e J ⟨o,l⟩;obtain rfl:=Ku HR.out o;have z:=Q0 (t.out.below l);have q:=Q0 (pg E.out l);go_simp;clear f t E l o;refine Z6 n (z.out.cx.cell 0) fun f=>?_;clear n K;refine tq (v:=.bool false) 6 f ?_ (hv:=by intro u hu;cases bx <;> simp [go_sem]);simp only [qq];refine a_ ?_;clear f
 go_upto_region 22 with fail
 go_cut [129] from 19 (fun s wx=>s=.bool false/\Hid (XL wx B ta tc fs da xs F fn ft X xa Z Q)/\Hid (Below w.heap.size w wx))
 case first=>as_aux_lemma=>
  have A:=Q0 (z.out.below (F4 _ J).drew);have I:=Q0 (pg q.out (F4 _ J).drew);clear z q;refine F7 (S:=fun u=>u.cell? ⟨X,0,none⟩=some (.slice xa Q.length Z)/\u.cell? ⟨B,0,none⟩=some (.slice ta fs.length tc)) U2 ⟨A.out.cx.cell 0,A.out.fl.el.c⟩ fun f=>?_;generalize J.drew=y0 at*;refine tq 0 f ?_;simp only [qq];refine tq 1 f ?_;simp only [qq];refine rq 2 fun K n=>?_;go_simp;refine (c13 xa Z Q da dc xs y0 O0 ET.out A.out.bZ hxl (mh HDK.out) A.out.fl.el.ds).mono ?_;rintro e y1 ⟨o,l⟩;obtain rfl:=Ku HR.out o;have t:=Q0 (A.out.below l);have E:=Q0 (pg I.out l);go_simp;clear f A I l o;refine Z6 n ⟨t.out.cx.cell 0,t.out.fl.el.c⟩ fun f=>?_;clear n K;refine tq 3 f ?_;simp only [qq];cases bx
  · skip
    refine uq 4 f ?_;simp only [qq];refine uq 5 f ?_;simp only [qq];refine uq 6 f ?_;simp only [qq];refine uq 7 f ?_;simp only [qq];refine uq 8 f ?_;simp only [qq];refine uq 9 f ?_;simp only [qq];refine uq 10 f ?_;simp only [qq];refine tq 11 f ?_;simp only [qq];refine a_ ?_;clear f
    go_wp2_with fail
    go_meet
    case rel=>exact ⟨rfl,t,E⟩
  refine tq 4 f ?_;simp only [qq];refine tq 5 f ?_;simp only [qq];refine tq 7 f ?_;simp only [qq];refine tq 8 f ?_;simp only [qq];refine rq 6 fun K n=>?_;go_simp;refine (c10 xa Z Q nm y1 O0 ET.out t.out.bZ O0 t.out.fl.el.st).mono ?_;rintro e J ⟨⟨d1,hd1,rfl⟩,l⟩;have z:=Q0 (t.out.below l);have q:=Q0 (pg E.out l);unfold Jy;go_simp;clear f t E l;refine Z6 n ⟨z.out.cx.cell 0,z.out.fl.el.c⟩ fun f=>?_;clear n K;refine rq 9 fun K n=>?_;go_simp;refine (c10 ta tc fs nm J O0 Y.out z.out.fl.el.at_ O0 z.out.fl.el.st).mono ?_;rintro e y3 ⟨⟨d2,hd2,rfl⟩,l⟩;obtain rfl:=GG XZ.out HP.out cZ.out HD.out (HR.out.1 rfl) hd2 hd1;have H3:=Q0 (z.out.below l);have P:=Q0 (pg q.out l);unfold Jy;go_simp;clear f z q l;refine Z6 n ⟨H3.out.cx.cell 0,H3.out.fl.el.c⟩ fun f=>?_;clear n K;refine tq (v:=.bool false) 10 f ?_ (hv:=by intro u hu;simp [go_sem]);simp only [qq];refine tq 11 f ?_;simp only [qq];refine a_ ?_;clear f hd1 hd2
  go_wp2_with fail
  go_meet
  case rel=>exact ⟨rfl,H3,P⟩
 obtain ⟨rfl,H,HW⟩:=hcut;clear z q;generalize wc=y at*;have k0:=H.out.fl.cf.cell 0;have k1:=H.out.fl.el.c;dsimp only [List.getElem?_cons_zero] at k0
 go_upto_region 25 with fail
 clear k0;have HN0:Hid ((fn.toList==[112,108,97,110])=false->fn≠G.Rf):=fun h e=>by rw [e,LD] at h;simp at h
 generalize (fn.toList==[112,108,97,110])=n0 at*
 go_wp2_with fail
 clear k1;refine (G.c16 ta tc fs y O0 Y.out H.out.fl.el.at_).mono ?_;rintro e y1 ⟨⟨ms',pa,pc,rfl,hpm,hp'⟩,C⟩;obtain rfl:=G.o_ HP.out hp';have t:=Q0 (H.out.below C);have E:=Q0 (pg HW.out C);have HPM:=Q0 hpm;clear hpm hp' C H HW
 go_wp2_with fail
 go_loopw [14,16] (fun nv r wr=>∃ (b:Bool) (k:Nat),nv=.bool b/\r=.int .i64 k/\k<=ms.length/\Hid (Below y1.heap.size y1 wr)/\Hid (b=false->N1 fn ms k)) (fun _ r _=>ms.length - (intOf r).toNat)
 case atStart=>exact ⟨n0,0,rfl,rfl,I5 _,F4 _ _,fun h=>⟨HN0.out h,fun j h=>absurd h (F5 _)⟩⟩
 obtain ⟨b,k,rfl,rfl,hk,V,D⟩:=hrel;by_cases hlt:k<ms.length
 · as_aux_lemma=>
   obtain ⟨pb,po,R⟩:=G.Pe HPM.out;rcases R with R | ⟨ha,hpb,R⟩
   · rw [R] at hlt;exact absurd hlt (F5 _)
   subst ha;have h30:=Fa HP.out;have HM:Hid (∀ u,Below y1.heap.size y1 u->u.cell? ⟨pb,po+k*3,none⟩=some (.string (ms.getD k N7).nm)/\u.cell? ⟨F,0,none⟩=some (.string fn)):=fun u l=>⟨(l.cell (p:=⟨pb,po+k*3,none⟩) hpb).trans (R k hlt).1,(t.out.below l).fl.cf.cell 0⟩;have WW:Hid (((ms.getD k N7).nm.toList==fn.toList)=false->N1 fn ms k->N1 fn ms (k+1)):=fun h ⟨h1,h2⟩=>⟨h1,fun j hj e=>by
    rcases U5 j k with h3 | h3
    · exact h2 j h3 e
    obtain rfl:j=k:=O0;rw [e] at h;simp at h⟩
   clear R;generalize (ms.getD k N7).nm=mk at*
   go_upto_region 29 with fail
   have HB2:=Q0 V.out.drew;refine F7 (S:=fun u=>u.cell? ⟨pb,po+k*3,none⟩=some (.string mk)/\u.cell? ⟨F,0,none⟩=some (.string fn)) U2 (HM.out _ HB2.out) fun f=>?_;generalize wr.drew=wq at*;refine tq 0 f ?_;simp only [qq];refine tq 1 f ?_;simp only [qq];cases b
   · have D:=Q0 (D.out rfl)
     refine tq 2 f ?_;simp only [qq];refine tq 3 f ?_;simp only [qq];refine tq 4 f ?_;simp only [qq];refine tq 5 f ?_;simp only [qq];refine tq 6 f ?_;simp only [qq];refine tq 7 f ?_;simp only [qq];refine tq 8 f ?_;simp only [qq];refine tq 9 f ?_;simp only [qq];refine tq 10 f ?_;simp only [qq];refine tq 11 f ?_;simp only [qq];refine a_ ?_;clear f;generalize (mk.toList==fn.toList)=b2 at*;go_wp2;go_roundw
     case rel=>exact ⟨b2,k+1,rfl,by go_num,O0,HB2,fun h=>WW.out h D.out⟩
     case measure=>simp [intOf];omega
   refine uq 2 f ?_;simp only [qq];refine uq 3 f ?_;simp only [qq];refine uq 4 f ?_;simp only [qq];refine uq 5 f ?_;simp only [qq];refine uq 6 f ?_;simp only [qq];refine uq 7 f ?_;simp only [qq];refine uq 8 f ?_;simp only [qq];refine uq 9 f ?_;simp only [qq];refine tq 10 f ?_;simp only [qq];refine tq 11 f ?_;simp only [qq];refine a_ ?_;clear f D;go_wp2;go_roundw
   case rel=>exact ⟨true,k+1,rfl,by go_num,O0,HB2,fun h=>by cases h⟩
   case measure=>simp [intOf];omega
 obtain rfl:k=ms.length:=O0;have z:=Q0 (t.out.below V.out);have q:=Q0 (pg E.out V.out);clear t E V HPM HN0 hk hlt;generalize wr=J at*
 go_wp2_with fail
 go_loopw [14,17] (fun nv r wr=>∃ (b:Bool) (k:Nat),nv=.bool b/\r=.int .i64 k/\k<=xs.length/\Hid (Below J.heap.size J wr)/\Hid (b=false->N2 fn ms xs k)) (fun _ r _=>xs.length - (intOf r).toNat)
 case atStart=>exact ⟨b,0,rfl,rfl,I5 _,F4 _ _,fun h=>⟨D.out h,fun j h=>absurd h (F5 _)⟩⟩
 clear D;obtain ⟨b,k,rfl,rfl,hk,V,D⟩:=hrel;by_cases hlt:k<xs.length
 · as_aux_lemma=>
   obtain ⟨g,la,lc,ha,hg,hm,XW,hlk,R⟩:=z.out.fl.el.ds.at hlt;subst ha;rw [XW] at R;have JV:=(HDK.out.2 _ hm).1;have WW:Hid (N2 fn ms xs k->DN fn (xs.getD k Pg).d->N2 fn ms xs (k+1)):=fun ⟨h1,h2⟩ h=>⟨h1,fun j hj=>by
    rcases U5 j k with h3 | h3
    · exact h2 j h3
    obtain rfl:j=k:=O0;exact h⟩
   clear hm XW;generalize (xs.getD k Pg).d=d at*;obtain ⟨dn,md,m,ls,r,wt⟩:=d;dsimp only at JV hlk;have HC:Hid (∀ u,Below J.heap.size J u->(u.cell? ⟨g,k*8,none⟩=some (.string dn)/\u.cell? ⟨F,0,none⟩=some (.string fn))/\u.cell? ⟨g,k*8+5,none⟩=some (.slice la ls.length lc)):=fun u l=>⟨⟨(l.cell (p:=⟨g,k*8,none⟩) hg).trans (R 0 _ rfl),(z.out.below l).fl.cf.cell 0⟩,(l.cell (p:=⟨g,k*8+5,none⟩) hg).trans (R 5 _ rfl)⟩;have VR:=Q0 hlk;clear R hlk
   go_upto_region 33 with fail
   go_cut [14] from 152 to 193 (fun s wx=>∃ b,s=.bool b/\Hid (Below J.heap.size J wx)/\Hid (b=false->N2 fn ms xs k/\dn≠fn))
   case first=>as_aux_lemma=>
    have HB2:=Q0 V.out.drew;refine F7 (S:=fun u=>u.cell? ⟨g,k*8,none⟩=some (.string dn)/\u.cell? ⟨F,0,none⟩=some (.string fn)) U2 (HC.out _ HB2.out).1 fun f=>?_;generalize wr.drew=wq at*;refine tq 0 f ?_;simp only [qq];refine tq 1 f ?_;simp only [qq];cases b
    · skip
      have HND:Hid ((dn.toList==fn.toList)=false->N2 fn ms xs k/\dn≠fn):=fun h=>⟨D.out rfl,fun e=>by rw [e] at h;simp at h⟩;clear D;refine tq 2 f ?_;simp only [qq];refine tq 3 f ?_;simp only [qq];refine tq 4 f ?_;simp only [qq];refine tq 5 f ?_;simp only [qq];refine tq 6 f ?_;simp only [qq];refine tq 7 f ?_;simp only [qq];refine tq 8 f ?_;simp only [qq];refine tq 9 f ?_;simp only [qq];refine tq 10 f ?_;simp only [qq];refine tq 11 f ?_;simp only [qq];refine a_ ?_;clear f
      go_wp2_with fail
      go_meet
      case rel=>exact ⟨_,rfl,HB2,HND.out⟩
    have HND:Hid (true=false->N2 fn ms xs k/\dn≠fn):=fun h=>by cases h
    clear D;refine uq 2 f ?_;simp only [qq];refine uq 3 f ?_;simp only [qq];refine uq 4 f ?_;simp only [qq];refine uq 5 f ?_;simp only [qq];refine uq 6 f ?_;simp only [qq];refine uq 7 f ?_;simp only [qq];refine uq 8 f ?_;simp only [qq];refine uq 9 f ?_;simp only [qq];refine tq 10 f ?_;simp only [qq];refine tq 11 f ?_;simp only [qq];refine a_ ?_;clear f
    go_wp2_with fail
    go_meet
    case rel=>exact ⟨_,rfl,HB2,HND.out⟩
   obtain ⟨b3,rfl,HB2,HND⟩:=hcut;clear D V
   go_wp2_with fail
   go_loopw [14,18] (fun nv r wr=>∃ (b:Bool) (j:Nat),nv=.bool b/\r=.int .i64 j/\j<=ls.length/\Hid (Below J.heap.size J wr)/\Hid (b=false->(N2 fn ms xs k/\dn≠fn)/\∀ i,i<j->(ls.getD i M.Ga).nm≠fn)) (fun _ r _=>ls.length - (intOf r).toNat)
   case atStart=>exact ⟨_,0,rfl,rfl,I5 _,HB2,fun h=>⟨HND.out h,fun j h=>absurd h (F5 _)⟩⟩
   clear HND;obtain ⟨b,j,rfl,rfl,hj,V,D⟩:=hrel;have q5:=(HC.out _ V.out).2;by_cases hjl:j<ls.length;rotate_left
   · obtain rfl:j=ls.length:=O0
     go_wp2;go_roundw
     case rel=>exact ⟨b,k+1,rfl,by go_num,O0,V,fun h=>WW.out (D.out h).1.1 ⟨(D.out h).1.2,(D.out h).2⟩⟩
     case measure=>simp [intOf];omega
   obtain ⟨lb,lo,ha,_⟩:=Ec VR.out V.out hjl;subst ha;have HL:Hid (∀ u,Below J.heap.size J u->u.cell? ⟨lb,lo+j*4+1,none⟩=some (.string (ls.getD j M.Ga).nm)/\u.cell? ⟨F,0,none⟩=some (.string fn)/\u.cell? ⟨g,k*8+5,none⟩=some (.slice (some ⟨lb,lo,none⟩) ls.length lc)):=fun u l=>by
    obtain ⟨b',o',e,_,_,k1,_⟩:=Ec VR.out l hjl;injection e with e;injection e with e1 e2;subst e1 e2;exact ⟨k1,(HC.out u l).1.2,(HC.out u l).2⟩
   have HNj:Hid (((ls.getD j M.Ga).nm.toList==fn.toList)=false->(∀ i,i<j->(ls.getD i M.Ga).nm≠fn)->∀ i,i<j+1->(ls.getD i M.Ga).nm≠fn):=fun h h2 i hi e=>by
    rcases U5 i j with h3 | h3
    · exact h2 i h3 e
    obtain rfl:i=j:=O0;rw [e] at h;simp at h
   generalize (ls.getD j M.Ga).nm=yn at*
   go_upto_region 37 with fail
   have HB3:=Q0 V.out.drew;refine F7 (S:=fun u=>u.cell? ⟨lb,lo+j*4+1,none⟩=some (.string yn)/\u.cell? ⟨F,0,none⟩=some (.string fn)/\u.cell? ⟨g,k*8+5,none⟩=some (.slice (some ⟨lb,lo,none⟩) ls.length lc)) U2 (HL.out _ HB3.out) fun f=>?_;generalize wr.drew=wp at*;clear q5;refine tq 0 f ?_;simp only [qq];refine tq 1 f ?_;simp only [qq];cases b
   · have D:=Q0 (D.out rfl)
     refine tq 2 f ?_;simp only [qq];refine tq 3 f ?_;simp only [qq];refine tq 4 f ?_;simp only [qq];refine tq 5 f ?_;simp only [qq];refine tq 6 f ?_;simp only [qq];refine tq 7 f ?_;simp only [qq];refine tq 8 f ?_;simp only [qq];refine tq 9 f ?_;simp only [qq];refine tq 10 f ?_;simp only [qq];refine tq 11 f ?_;simp only [qq];refine tq 12 f ?_;simp only [qq];refine tq 13 f ?_;simp only [qq];refine tq 14 f ?_;simp only [qq];refine tq 15 f ?_;simp only [qq];refine a_ ?_;clear f;generalize (yn.toList==fn.toList)=b2 at*;go_wp2;go_roundw
     case rel=>exact ⟨b2,j+1,rfl,by go_num,O0,HB3,fun h=>⟨D.out.1,HNj.out h D.out.2⟩⟩
     case measure=>simp [intOf];omega
   refine uq 2 f ?_;simp only [qq];refine uq 3 f ?_;simp only [qq];refine uq 4 f ?_;simp only [qq];refine uq 5 f ?_;simp only [qq];refine uq 6 f ?_;simp only [qq];refine uq 7 f ?_;simp only [qq];refine uq 8 f ?_;simp only [qq];refine uq 9 f ?_;simp only [qq];refine uq 10 f ?_;simp only [qq];refine uq 11 f ?_;simp only [qq];refine uq 12 f ?_;simp only [qq];refine uq 13 f ?_;simp only [qq];refine tq 14 f ?_;simp only [qq];refine tq 15 f ?_;simp only [qq];refine a_ ?_;clear f D;go_wp2;go_roundw
   case rel=>exact ⟨true,j+1,rfl,by go_num,O0,HB3,fun h=>by cases h⟩
   case measure=>simp [intOf];omega
 obtain rfl:k=xs.length:=O0;have H3:=Q0 (z.out.below V.out);have P:=Q0 (pg q.out V.out);clear z q V hk hlt;generalize wr=y3 at*
 go_upto_region 38 with fail
 have A:=Q0 (H3.out.below (F4 _ y3).drew);have I:=Q0 (pg P.out (F4 _ y3).drew);clear H3 P;refine F7 (S:=fun u=>u.cell? ⟨X,0,none⟩=some (.slice xa Q.length Z)/\u.cell? ⟨B,0,none⟩=some (.slice ta fs.length tc)) U2 ⟨A.out.cx.cell 0,A.out.fl.el.c⟩ fun f=>?_;generalize y3.drew=y4 at*;refine tq 0 f ?_;simp only [qq];refine tq 1 f ?_;simp only [qq];cases b
 · have HSA:=Q0 (eH HXO.out HP.out (D.out rfl) (aC XZ.out HP.out cZ.out HD.out))
   clear D;refine tq 2 f ?_;simp only [qq];refine tq 3 f ?_;simp only [qq];refine tq 5 f ?_;simp only [qq];refine tq 6 f ?_;simp only [qq];refine rq 4 fun K n=>?_;go_simp;refine (c10 xa Z Q nm y4 O0 ET.out A.out.bZ O0 A.out.fl.el.st).mono ?_;rintro e y5 ⟨⟨d1,hd1,rfl⟩,l⟩;have H5:=Q0 (A.out.below l);have HW5:=Q0 (pg I.out l);unfold Jy;go_simp;clear f A I l;refine Z6 n ⟨H5.out.cx.cell 0,H5.out.fl.el.c⟩ fun f=>?_;clear n K;refine rq 7 fun K n=>?_;go_simp;refine (c10 ta tc fs nm y5 O0 Y.out H5.out.fl.el.at_ O0 H5.out.fl.el.st).mono ?_;rintro e y6 ⟨⟨d2,hd2,rfl⟩,l⟩;obtain rfl:=GG XZ.out HP.out cZ.out HD.out HSA.out hd2 hd1;have N:=Q0 (H5.out.below l);have aX:=Q0 (pg HW5.out l);unfold Jy;go_simp;clear f H5 HW5 l;refine Z6 n ⟨N.out.cx.cell 0,N.out.fl.el.c⟩ fun f=>?_;clear n K;refine tq (v:=.bool true) 8 f ?_ (hv:=by intro u hu;simp [go_sem]);simp only [qq];refine tq 9 f ?_;simp only [qq];refine tq 10 f ?_;simp only [qq];refine tq 11 f ?_;simp only [qq];refine rq 12 fun K n=>?_;go_simp;refine (c9 xa Z Q da dc xs y6 O0 ET.out N.out.bZ hxl (mh HDK.out) N.out.fl.el.ds N.out.fl.el.st).mono ?_;rintro e y7 ⟨o,l⟩;obtain rfl:=sN o HSA.out;have H7:=Q0 (N.out.below l);have HW7:=Q0 (pg aX.out l);go_simp;clear f N aX l o;refine Z6 n ⟨H7.out.cx.cell 0,H7.out.fl.el.c⟩ fun f=>?_;clear n K;refine tq 13 f ?_;simp only [qq];refine tq 14 f ?_;simp only [qq];refine tq 15 f ?_;simp only [qq];refine a_ ?_;clear f;go_wp2;go_ret;exact ⟨rfl,HW7.out⟩
 refine uq 2 f ?_;simp only [qq];refine uq 3 f ?_;simp only [qq];refine uq 4 f ?_;simp only [qq];refine uq 5 f ?_;simp only [qq];refine uq 6 f ?_;simp only [qq];refine uq 7 f ?_;simp only [qq];refine uq 8 f ?_;simp only [qq];refine uq 9 f ?_;simp only [qq];refine uq 10 f ?_;simp only [qq];refine uq 11 f ?_;simp only [qq];refine uq 12 f ?_;simp only [qq];refine uq 13 f ?_;simp only [qq];refine tq 14 f ?_;simp only [qq];refine tq 15 f ?_;simp only [qq];refine a_ ?_;clear f;go_wp2;go_ret;exact ⟨rfl,I.out⟩
end Go.Proofs.YtdjaajjndfbpmaaGreatDoor
