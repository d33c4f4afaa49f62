import Derived.Test.YtdjaajjndfbpmaaGreatDoorDF
set_option linter.unusedVariables false
set_option maxHeartbeats 8000000
set_option maxRecDepth 100000
namespace Go.Proofs.YtdjaajjndfbpmaaGreatDoor
open Proofs.Tryz
open Go.RowKit
open G (jf H6)
open G.T (F2 P6 X3 F3 lt)
theorem r16 (B3 nb k m Z i:Nat) (a:Option Addr) (cap fl:Nat) (L:Option Addr) (wc:Nat) (ws:List W8) (n:ByteArray) (q:Bool) (rc:Int) (rt:ByteArray) (w:World) (u0 u2 u4 u5 u6 u7 u10 u12 u13 u14 u15 u16 u17 u18 u19 u20 u21 u22 u23 u24 u25 u26 u27 u28 u29 u30 u31 u32 u33 u34 u35 u36 u37 u38 u39 u40 u41 u42 u43 u44 u45 u46 u47 u48 u49 u50 u51 u52 u53 u54 u55 u56 u57 u58:Value) {Q:Exit->Act->World->Prop} (hQ:∀ c (a:Act) (d:Option Tmp) (v:Value) w,Q (.panic c) (a.put d v) w->Q (.panic c) a w) (c3:w.cell? ⟨B3,0,none⟩=some (.slice a fl cap)) (z:B3<w.heap.size) (r:w.cell? ⟨nb,k+i,none⟩=some (.string n)) (y:nb<w.heap.size) (hi:i<m) (hm:m<=1000) (Y:Hid (∀ u,Below w.heap.size w u->Calls prog 30 #[.agg #[.slice a fl cap],.slice L ws.length wc,.string n] u fun e w'=>e=.returned (.agg #[.int .i64 rc,.string rt])/\Below u.heap.size u w'))
 (X:∀ (t32 t33 t34 t35 t36 t37 t38 t39 t40 t41 t42 t43 t44:Value) (R:Nat) (w':World),w.heap.size<=R->Cl w' R 50 [.string n,.bool q,.string ⟨#[]⟩,.string ⟨#[]⟩,.string ⟨#[]⟩,.slice none 0 0,.int .i64 rc,.string rt]->Below w.heap.size w w'->Q .normal { tmps:=#[u0,.slice L ws.length wc,u2,.pointer (some ⟨B3,0,none⟩),u4,u5,u6,u7,.slice (some ⟨nb,k,none⟩) m Z,.int .i64 (i:Int),u10,.bool q,.pointer (some ⟨R,0,none⟩),u13,u14,u15,u16,u17,u18,u19,u20,u21,u22,u23,u24,u25,u26,u27,u28,u29,u30,u31,t32,t33,t34,t35,t36,t37,t38,t39,t40,t41,t42,t43,t44,u45,u46,u47,u48,u49,u50,u51,u52,u53,u54,u55,u56,u57,u58],defers:=[] } w'):
 (Code.region 7 #[⟨some 32,.move (.tmp 8),79, "l4_want.go:194",#[],none⟩,⟨some 33,.move (.tmp 9),3, "l4_want.go:194",#[],none⟩,⟨some 34,.indexAddr 79 (.tmp 32) (.tmp 33),0, "l4_want.go:194",#[⟨0,.data⟩,⟨1,.data⟩],none⟩,⟨some 35,.load 9 (.tmp 34),9, "l4_want.go:194",#[⟨2,.data⟩],none⟩,⟨some 36,.move (.tmp 11),4, "l4_want.go:194",#[],none⟩,⟨some 37,.load 25 (.tmp 3),25, "l4_want.go:194",#[],none⟩,⟨some 38,.move (.tmp 1),61, "l4_want.go:194",#[],none⟩,⟨some 39,.move (.tmp 8),79, "l4_want.go:194",#[],none⟩,⟨some 40,.move (.tmp 9),3, "l4_want.go:194",#[],none⟩,⟨some 41,.indexAddr 79 (.tmp 39) (.tmp 40),0, "l4_want.go:194",#[⟨7,.data⟩,⟨8,.data⟩],none⟩,⟨some 42,.load 9 (.tmp 41),9, "l4_want.go:194",#[⟨9,.data⟩],none⟩,⟨some 43,.call ⟨.value (.func 30),#[.tmp 37,.tmp 38,.tmp 42],#[25,61,9]⟩,34, "l4_want.go:194",#[⟨5,.data⟩,⟨6,.data⟩,⟨10,.data⟩],none⟩,⟨some 44,.build 50 #[(0,.tmp 35),(1,.tmp 36),(4,.tmp 43)],50, "l4_want.go:194",#[⟨3,.data⟩,⟨4,.data⟩,⟨11,.data⟩],none⟩,⟨some 12,.alloc 50,0, "l4_want.go:194",#[],none⟩,⟨none,.store 50 (.tmp 12) (.tmp 44),0, "l4_want.go:194",#[⟨13,.data⟩,⟨12,.data⟩,⟨11,.chain⟩,⟨0,.phase⟩,⟨1,.phase⟩,⟨2,.phase⟩,⟨3,.phase⟩,⟨4,.phase⟩,⟨5,.phase⟩,⟨6,.phase⟩,⟨7,.phase⟩,⟨8,.phase⟩,⟨9,.phase⟩,⟨10,.phase⟩,⟨11,.phase⟩,⟨12,.phase⟩,⟨13,.phase⟩],none⟩] true).wp prog Q { tmps:=#[u0,.slice L ws.length wc,u2,.pointer (some ⟨B3,0,none⟩),u4,u5,u6,u7,.slice (some ⟨nb,k,none⟩) m Z,.int .i64 (i:Int),u10,.bool q,u12,u13,u14,u15,u16,u17,u18,u19,u20,u21,u22,u23,u24,u25,u26,u27,u28,u29,u30,u31,u32,u33,u34,u35,u36,u37,u38,u39,u40,u41,u42,u43,u44,u45,u46,u47,u48,u49,u50,u51,u52,u53,u54,u55,u56,u57,u58],defers:=[] } w:=by
 refine F7 (S:=fun u=>u.cell? ⟨nb,k+i,none⟩=some (.string n)/\u.cell? ⟨B3,0,none⟩=some (.slice a fl cap)) U2 ⟨r,c3⟩ fun b=>?_;obtain ⟨h,N⟩:∃ x:World,x=w.drew:=⟨_,rfl⟩;rw [<- N] at b ⊢;have H:Below w.heap.size w h:=by rw [N];exact (F4 _ w).drew
 clear N;refine tq 0 b ?_;refine tq 1 b ?_;refine tq 2 b ?_;refine tq 3 b ?_ (v:=?_) (hv:=?e)
 case e=>intro wq hSw;(try dsimp only at hSw);obtain ⟨V,U⟩:=hSw;go_simp;try with_reducible rfl
 refine tq 4 b ?_;refine tq 5 b ?_ (v:=?_) (hv:=?e)
 case e=>intro wq hSw;(try dsimp only at hSw);obtain ⟨V,U⟩:=hSw;go_simp;try with_reducible rfl
 refine tq 6 b ?_;refine tq 7 b ?_;refine tq 8 b ?_;refine tq 9 b ?_;refine tq 10 b ?_ (v:=?_) (hv:=?e)
 case e=>intro wq hSw;(try dsimp only at hSw);obtain ⟨V,U⟩:=hSw;go_simp;try with_reducible rfl
 try simp only [qq]
 refine Ma (rs:=[11,13]) U2 X0 (x8 (o:=⟨some 43,.call ⟨.value (.func 30),#[.tmp 37,.tmp 38,.tmp 42],#[25,61,9]⟩,34,_,_,none⟩) rfl (fun K f=>?_) (x8 (o:=⟨some 12,.alloc 50,0,_,_,none⟩) rfl (fun K f=>?_) Ra))
 · go_simp
   refine (Y.out h H).mono ?_;rintro e g ⟨rfl,W⟩;have l:=bT H W;clear W;go_simp;clear b;refine f.out _ _ ?_ fun b=>?_
   · exact ⟨(l.cell (p:=⟨nb,k+i,none⟩) y).trans r,(l.cell (p:=⟨B3,0,none⟩) z).trans c3⟩
   clear f K;refine I4 12 b ?_;refine rq 13 fun K f=>?_;go_simp;obtain ⟨J,E⟩:∃ x:World,x=g.alloc (.cells #[.string ⟨#[]⟩,.bool false,.string ⟨#[]⟩,.string ⟨#[]⟩,.string ⟨#[]⟩,.slice none 0 0,.int .i64 0,.string ⟨#[]⟩] 50):=⟨_,rfl⟩;rw [<- E];have Bx2:Below g.heap.size g J:=by rw [E];exact bA
   have A:Hid (Cl J g.heap.size 50 [.string ⟨#[]⟩,.bool false,.string ⟨#[]⟩,.string ⟨#[]⟩,.string ⟨#[]⟩,.slice none 0 0,.int .i64 0,.string ⟨#[]⟩]):=by show Cl _ _ _ _;rw [E];exact U1 g _ 50
   have t:=bT l Bx2;have C:w.heap.size<=g.heap.size:=l.size;clear E;clear b;refine Z6 f ?_ fun b=>?_
   · exact ⟨(t.cell (p:=⟨nb,k+i,none⟩) y).trans r,(t.cell (p:=⟨B3,0,none⟩) z).trans c3⟩
   clear f K;refine rq 14 fun K f=>?_;refine qh rfl 50 _ _ rfl (B:=g.heap.size) (j:=0) rfl (vs:=[.string n,.bool q,.string ⟨#[]⟩,.string ⟨#[]⟩,.string ⟨#[]⟩,.slice none 0 0,.int .i64 rc,.string rt]) rfl A.out X0 (by intro v hv;simp at hv;rcases hv with rfl | rfl | rfl | rfl | rfl | rfl <;> rfl) U2 ?_;intro I D ho;have s:=t.trans (ho.below C);have P:Hid (Cl I g.heap.size 50 [.string n,.bool q,.string ⟨#[]⟩,.string ⟨#[]⟩,.string ⟨#[]⟩,.slice none 0 0,.int .i64 rc,.string rt]):=Q0 D;clear D ho;clear b;refine Z6 f ?_ fun b=>?_
   · exact ⟨(s.cell (p:=⟨nb,k+i,none⟩) y).trans r,(s.cell (p:=⟨B3,0,none⟩) z).trans c3⟩
   clear f K;refine a_ ?_;exact X _ _ _ _ _ _ _ _ _ _ _ _ _ _ _ C P.out s
 go_simp;obtain ⟨g,F⟩:∃ x:World,x=h.alloc (.cells #[.string ⟨#[]⟩,.bool false,.string ⟨#[]⟩,.string ⟨#[]⟩,.string ⟨#[]⟩,.slice none 0 0,.int .i64 0,.string ⟨#[]⟩] 50):=⟨_,rfl⟩;rw [<- F];have Bx1:Below h.heap.size h g:=by rw [F];exact bA
 have A:Hid (Cl g h.heap.size 50 [.string ⟨#[]⟩,.bool false,.string ⟨#[]⟩,.string ⟨#[]⟩,.string ⟨#[]⟩,.slice none 0 0,.int .i64 0,.string ⟨#[]⟩]):=by show Cl _ _ _ _;rw [F];exact U1 h _ 50
 have l:=bT H Bx1;have C:w.heap.size<=h.heap.size:=H.size;clear F;clear b;refine Z6 f ?_ fun b=>?_
 · exact ⟨(l.cell (p:=⟨nb,k+i,none⟩) y).trans r,(l.cell (p:=⟨B3,0,none⟩) z).trans c3⟩
 clear f K;refine rq 11 fun K f=>?_;go_simp;refine (Y.out g l).mono ?_;rintro e J ⟨rfl,O⟩;have t:=bT l O;have A:=Q0 (A.out.below O A.out.lt);clear O;go_simp;clear b;refine f.out _ _ ?_ fun b=>?_
 · exact ⟨(t.cell (p:=⟨nb,k+i,none⟩) y).trans r,(t.cell (p:=⟨B3,0,none⟩) z).trans c3⟩
 clear f K;refine I4 12 b ?_;refine rq 14 fun K f=>?_;refine qh rfl 50 _ _ rfl (B:=h.heap.size) (j:=0) rfl (vs:=[.string n,.bool q,.string ⟨#[]⟩,.string ⟨#[]⟩,.string ⟨#[]⟩,.slice none 0 0,.int .i64 rc,.string rt]) rfl A.out X0 (by intro v hv;simp at hv;rcases hv with rfl | rfl | rfl | rfl | rfl | rfl <;> rfl) U2 ?_;intro I D ho;have s:=t.trans (ho.below C);have P:Hid (Cl I h.heap.size 50 [.string n,.bool q,.string ⟨#[]⟩,.string ⟨#[]⟩,.string ⟨#[]⟩,.slice none 0 0,.int .i64 rc,.string rt]):=Q0 D;clear D ho;clear b;refine Z6 f ?_ fun b=>?_
 · exact ⟨(s.cell (p:=⟨nb,k+i,none⟩) y).trans r,(s.cell (p:=⟨B3,0,none⟩) z).trans c3⟩
 clear f K;refine a_ ?_;exact X _ _ _ _ _ _ _ _ _ _ _ _ _ _ _ C P.out s
theorem Yc {w:World} {base nb g j:Nat} {C:List ByteArray} (h:w.ownsRow base 9 1 (.slice (some ⟨nb,g,none⟩) C.length j) C.length (We C)) {i:Nat} (f:i<C.length):w.cell? ⟨nb,g+i,none⟩=some (.string (C.getD i ⟨#[]⟩))/\nb<w.heap.size:=by
 obtain ⟨a,c,e,d⟩:=xe h;injection e with e _ _;subst e;rcases d with d | ⟨b,off,e,h1,h2⟩
 · rw [d] at f;cases f
 injection e with e;injection e with e1 e2;subst e1 e2;exact ⟨h2 i f,h1⟩
theorem dR (E:Env) (a:Option Addr) (cap:Nat) (fs:List F2) (ms:List M3) (hE:E=P5 fs ms) (V:Option Addr) (wc:Nat) (ws:List W8) (nm:ByteArray) (w:World) (hat:F3 w a fs) (ht:X3 fs) (hp:H6 fs ms) (GU:ws.length<=300) (hws:Zh w V ws) (hlv:∀ i,i<ws.length->Te w (ws.getD i J9)/\(ws.getD i J9).ls.length<=15) (hw:BO E ws) (hd:∀ n,Xc E n (dW fs ms ws n)):
 Calls prog 25 #[.agg #[.slice a fs.length cap],.slice V ws.length wc,.string nm] w fun e w'=>(∃ v,e=.returned v/\∃ xs,P_ w.heap.size v xs w'/\Wh E nm (xs.map (·.d)))/\Below w.heap.size w w':=by
 have vS:Y7 E:=by rw [hE];exact zb ht hp
 have hms:E.ms.length<=30:=by rw [hE];show (ms.map toM).length<=30;rw [qc];exact Fa hp
 have HAT:=Q0 hat;have HT:=Q0 ht;have HP:=Q0 hp;have OV:=Q0 hws;have KU:=Q0 hlv;have QX:=Q0 hd;have xS:=Q0 vS;have hfl:fs.length<=1048576:=by have:=ht.1;omega
 have HF:=Q0 (Xl ht);obtain ⟨u0,hu0⟩:∃ u:World,u=w.alloc (.cells #[.slice a fs.length cap] 25):=⟨_,rfl⟩;obtain ⟨u1,hu1⟩:∃ u:World,u=u0.alloc (.cells #[] 50):=⟨_,rfl⟩;have EW:=Q0 hu0;have HU1:=Q0 hu1;have b0:Below w.heap.size w u0:=by rw [hu0];exact bA
 have b1:Below w.heap.size w u1:=by rw [hu1];exact b0.alloc b0.size _
 have C3:Hid (Cl u1 w.heap.size 25 [.slice a fs.length cap]):=by show Cl _ _ _ _;rw [hu1,hu0];exact J_ (U1 w _ 25) _
 have hz0:u0.heap.size=w.heap.size+1:=by rw [hu0];simp
 have R0:Hid (u1.ownsRow w.heap.size 50 8 (.slice (some ⟨w.heap.size+1,0,none⟩) 0 0) 0 []):=by show World.ownsRow _ _ _ _ _ _ _;rw [hu1,<- hz0];exact Gm u0 #[] 0 b0.size (I5 _) rfl
 have h33:=nQ E vS hms V wc ws nm u1 GU (Xd hws b1) (fun i hi=>⟨(hlv i hi).1.below b1,(hlv i hi).2⟩) hw;have HLEN:Hid (∀ C,gp C->(∀ k,k∈C↔Js E nm k)->C.length<=481):=fun C h1 h2=>El vS hms (yj h1) (fun k hk=>(h2 k).1 hk);clear hat ht hp hws hlv hw hd vS hms hE hu0 hu1 b0;go_enter func25,ntmps25
 go_upto_region 2 with fail
 rw [<- EW.out,<- HU1.out];clear EW HU1
 go_wp2_with fail
 refine h33.mono ?_;rintro e u2 ⟨⟨v8,rfl,C,hrC,hasc,hmem⟩,K⟩;have a3r:=HLEN.out C hasc hmem;have hrC:=D5 hrC b1.size;obtain ⟨ca,cc,FW,IU⟩:=xe hrC;subst FW;obtain ⟨nb,Y,hca⟩:∃ nb Y,ca=some ⟨nb,Y,none⟩:=by
  rcases IU with h | ⟨b,off,h,_⟩
  · have:=(hmem nm).2 .base
    rw [h] at this;cases this
  exact ⟨b,off,h⟩
 subst hca;have H:=Q0 hrC;have s:=Q0 (C3.out.below K C3.out.lt);have HR0:=Q0 (ownsRow_below R0.out K);have D:=Q0 (bT b1 K);have a1I:=Q0 hasc;have a1J:=Q0 hmem;clear h33 hrC hasc hmem IU K b1 R0 C3 HLEN
 go_wp2_with fail
 go_loopw [7,9] (fun v7 v9 wr=>∃ (i:Nat) (xs:List De) (va:Option Addr) (R:Nat),i<=C.length/\v7=.slice va xs.length R/\v9=.int .i64 i/\Hid (P_ w.heap.size (.slice va xs.length R) xs wr)/\Hid (xs.map (·.d)=(C.take i).map (dW fs ms ws))/\Hid (wr.ownsRow w.heap.size 9 1 (.slice (some ⟨nb,Y,none⟩) C.length cc) C.length (We C))/\Hid (Cl wr w.heap.size 25 [.slice a fs.length cap])/\Hid (Below w.heap.size w wr)) (fun _ v9 _=>C.length - (intOf v9).toNat)
 case atStart=>exact ⟨0,[],_,_,I5 _,rfl,rfl,⟨HR0.out,(fun x h=>by cases h),List.Pairwise.nil⟩,rfl,H.out,s.out,D.out⟩
 clear HR0 H s D;obtain ⟨i,xs,va,R,hi,rfl,rfl,O,HMP,H,s,D⟩:=hrel;have hxl:xs.length<=481:=by have:=V3 List.length HMP.out;simp at this;omega
 by_cases hlt:i<C.length;rotate_left
 · obtain rfl:i=C.length:=O0
   have IW:Hid (Wh E nm (xs.map (·.d))):=by
    have e1:xs.map (·.d)=C.map (dW fs ms ws):=by rw [HMP.out,Fv]
    have e2:(xs.map (·.d)).map (·.nm)=C:=by
     rw [e1,Kq];exact (Bo fun n _=>Lp (QX.out n)).trans (List.map_id _)
    refine ⟨by rw [e2];exact a1I.out,fun d hdm=>?_,fun k=>by rw [e2];exact a1J.out k⟩;rw [e1] at hdm;obtain ⟨n,_,rfl⟩:=D9.1 hdm;have:=QX.out n;rw [<- Lp this] at this;rw [Lp (QX.out n)] at this ⊢;exact QX.out n
   go_wp2;go_ret;exact ⟨⟨_,rfl,xs,O.out,IW.out⟩,D.out⟩
 obtain ⟨gN,hnb⟩:=Yc H.out hlt;have HTK:Hid (C.take (i+1)=C.take i++[C.getD i ⟨#[]⟩]):=by show _=_;rw [Rh hlt];simp [List.getD,F8 hlt]
 generalize C.getD i ⟨#[]⟩=n at*;have h34:=zQ V wc ws n wr GU (Xd OV.out D.out) (fun j hj=>by obtain ⟨x,y,h,_⟩:=(KU.out j hj).1;exact ⟨x,_,y,h⟩);obtain ⟨z,mb,e1,e2,HLZ,hT,hF⟩:∃ (z:W8) (mb:Bool),(L_ ws n).getD J9=z/\(L_ ws n).isSome=mb/\Hid (Te w z/\z.ls.length<=15)/\Hid (mb=true->dW fs ms ws n=⟨n,true,z.m,z.ls,Nl (Rj fs ms ws n),z.wt⟩)/\Hid (mb=false->dW fs ms ws n=⟨n,false,N7,[],Nl (Rj fs ms ws n),⟨#[]⟩⟩):=by
  cases hf:L_ ws n with
  | none=>exact ⟨J9,false,rfl,rfl,⟨⟨none,0,rfl,.inl rfl,fun k e=>by cases e⟩,by simp [J9]⟩,(fun h=>by cases h),fun _=>by unfold dW;rw [hf]⟩
  | some z=>
   obtain ⟨_,j,hj,e⟩:=Ch hf;exact ⟨z,true,rfl,rfl,by rw [<- e];exact KU.out j hj,(fun _=>by unfold dW;rw [hf]),fun h=>by cases h⟩
 rw [e1,e2] at h34;obtain ⟨rr,HRR⟩:∃ r,Hid (Nl (Rj fs ms ws n)=r):=⟨_,rfl⟩;have PV:Hid (∀ u,Below w.heap.size w u->Calls prog 30 #[.agg #[.slice a fs.length cap],.slice V ws.length wc,.string n] u fun e w'=>e=.returned (.agg #[.int .i64 rr.code,.string rr.tx])/\Below u.heap.size u w'):=fun u hu=>by
  have:=dQ a cap fs ms V wc ws n u hfl HF.out (G.T.U0 HAT.out hu) HT.out HP.out GU (Xd OV.out hu);rw [HRR.out] at this;exact this
 rw [HRR.out] at hT hF;obtain ⟨rc,rt⟩:=rr;dsimp only at PV;obtain ⟨la,Z,hla,hlk,hlb⟩:=HLZ.out.1;have LX:=HLZ.out.2;obtain ⟨⟨l,g,o⟩,xl,ls,xo,xc,xx,J⟩:=z;dsimp only at hla hT LX;subst hla;clear e1 e2 hlk hlb
 go_wp2_with fail
 refine h34.mono ?_;rintro e w1 ⟨rfl,hb1⟩;rw [show (W8.vs ⟨⟨l,g,o⟩,.slice la ls.length Z,ls,xo,xc,xx,J⟩).toArray=#[.string l,.string g,.string o,.slice la ls.length Z,.bool xo,.int .i64 xc,.string xx,.string J] from rfl]
 go_upto_region 7 with (refine Zi rfl 108 _ _ rfl (B:=w1.heap.size) (j:=0) rfl (vs:=[.string l,.string g,.string o,.slice la ls.length Z,.bool xo,.int .i64 xc,.string xx,.string J]) rfl (U1 w1 z8 108) (by simp [z8]) (by intro v hv;simp at hv;rcases hv with rfl | rfl | rfl | rfl | rfl | rfl | rfl | rfl <;> rfl) U2 ?_;intro Q hc2 ho2)
 have K:=hb1.trans ((bA.trans (ho2.below P9)).mono hb1.size);have xV:Hid (Cl Q w1.heap.size 108 [.string l,.string g,.string o,.slice la ls.length Z,.bool xo,.int .i64 xc,.string xx,.string J]):=Q0 hc2;have O:=Q0 (O.out.below K);have H:=Q0 (ownsRow_below H.out K);have s:=Q0 (s.out.below K s.out.lt);have D:=Q0 (bT D.out K);have gN2:=(K.cell (p:=⟨nb,Y+i,none⟩) hnb).trans gN;have a0c:=D7 hnb K.size;have a3D:w.heap.size<Q.heap.size:=s.out.lt;have a1K:Hid (∀ k,((Value.slice va xs.length R).ownBlock=some k\/∃ x∈xs,x.lv.ownBlock=some k)->k<Q.heap.size):=fun k h=>h.elim (fun e=>(O.out.row.lt k e).2) (fun ⟨x,hx,e⟩=>((O.out.lk x hx).lt k e).2);have a1L:Hid (∀ k,(Value.slice (some ⟨nb,Y,none⟩) C.length cc).ownBlock=some k->k<Q.heap.size):=fun k e=>(H.out.lt k e).2;have a3E:w1.heap.size<Q.heap.size:=xV.out.lt;clear h34 hc2 ho2 hb1 K gN
 try simp only [qq]
 refine r16 w.heap.size nb Y C.length cc i a cap fs.length V wc ws n mb rc rt Q _ _ _ _ _ _ _ _ _ _ _ _ _ _ _ _ _ _ _ _ _ _ _ _ _ _ _ _ _ _ _ _ _ _ _ _ _ _ _ _ _ _ _ _ _ _ _ _ _ _ _ _ _ _ ?hq1 (s.out.cell 0) s.out.lt gN2 a0c hlt O0 (Q0 fun u hu=>PV.out u (bT D.out hu)) ?kk1
 case hq1=>exact fun _ _ d _ _ h=>by cases d <;> exact h
 intro t32 t33 t34 t35 t36 t37 t38 t39 t40 t41 t42 t43 t44 F P a3F hc3 hb3;have C12:=Q0 hc3;have xV:=Q0 (xV.out.below hb3 xV.out.lt);have O:=Q0 (O.out.below hb3);have H:=Q0 (ownsRow_below H.out hb3);have s:=Q0 (s.out.below hb3 s.out.lt);have D:=Q0 (bT D.out hb3);have a1M:Q.heap.size<=P.heap.size:=hb3.size;have YR:Hid (∀ k,((Value.slice va xs.length R).ownBlock=some k\/∃ x∈xs,x.lv.ownBlock=some k)->k<Q.heap.size):=a1K;have RX:Hid (∀ k,(Value.slice (some ⟨nb,Y,none⟩) C.length cc).ownBlock=some k->k<Q.heap.size):=a1L;clear hc3 hb3 gN2 a0c PV;cases mb
 · have HDW:=Q0 hF.out
   clear hT hF;have A:Below P.heap.size P (P.alloc (.cells #[.string n,.bool false,.string ⟨#[]⟩,.string ⟨#[]⟩,.string ⟨#[]⟩,.slice none 0 0,.int .i64 rc,.string rt] 50)):=bA;have I:=Q0 (O.out.below A);have G4:Hid (Cl (P.alloc (.cells #[.string n,.bool false,.string ⟨#[]⟩,.string ⟨#[]⟩,.string ⟨#[]⟩,.slice none 0 0,.int .i64 rc,.string rt] 50)) P.heap.size 50 [.string n,.bool false,.string ⟨#[]⟩,.string ⟨#[]⟩,.string ⟨#[]⟩,.slice none 0 0,.int .i64 rc,.string rt]):=Q0 (U1 P _ 50);have HXR:Hid (World.ownsRow (P.alloc (.cells #[.string n,.bool false,.string ⟨#[]⟩,.string ⟨#[]⟩,.string ⟨#[]⟩,.slice none 0 0,.int .i64 rc,.string rt] 50)) w.heap.size 52 4 (.slice none 0 0) (⟨⟨n,false,N7,[],⟨rc,rt⟩,⟨#[]⟩⟩,.slice none 0 0⟩:De).d.ls.length (R4 (⟨⟨n,false,N7,[],⟨rc,rt⟩,⟨#[]⟩⟩,.slice none 0 0⟩:De).d.ls)):=Q0 (F9 _ _ _ _);have S:w.heap.size<=(P.alloc (.cells #[.string n,.bool false,.string ⟨#[]⟩,.string ⟨#[]⟩,.string ⟨#[]⟩,.slice none 0 0,.int .i64 rc,.string rt] 50)).heap.size:=by have:=D.out.size;simp;omega
   go_wp2_with (first | (refine Bh rfl (yg 50 _ rfl (B:=F) (j:=0) (cs:=[.string n,.bool false,.string ⟨#[]⟩,.string ⟨#[]⟩,.string ⟨#[]⟩,.slice none 0 0,.int .i64 rc,.string rt]) rfl (fun q v e=>by rw [R7];exact (C12.out.cell q).trans e) underlying50 rfl U2) ?_) | (refine Ve rfl _ _ 28 rfl w.heap.size 50 8 underlying28 zG K3 (.slice va xs.length R) xs.length (Zo xs) rfl I.out.row _ 1 [.string n,.bool false,.string ⟨#[]⟩,.string ⟨#[]⟩,.string ⟨#[]⟩,.slice none 0 0,.int .i64 rc,.string rt] rfl (.inr ⟨⟨P.heap.size,0,none⟩,1,rfl,rfl,za G4.out⟩) (by intro v hv;simp at hv;rcases hv with rfl | rfl | rfl | rfl | rfl | rfl <;> rfl) O0 S ?_;intro v' W O9 g9 at9;have JW:=Q0 O9;have N:=Q0 g9;clear O9 g9 at9))
   have HDN:Hid (P_ w.heap.size v' (xs++[⟨⟨n,false,N7,[],⟨rc,rt⟩,⟨#[]⟩⟩,.slice none 0 0⟩]) W):=Q0 (I.out.snoc (x:=⟨⟨n,false,N7,[],⟨rc,rt⟩,⟨#[]⟩⟩,.slice none 0 0⟩) HXR.out (fun y _ k _ e=>by cases e) JW.out N.out);have KW:=Q0 (Nn (ownsRow_below H.out A) I.out.row K3 N.out);have HCN:Hid (Cl W w.heap.size 25 [.slice a fs.length cap]):=Q0 ((s.out.below A s.out.lt).gb N.out (fun e=>by
    obtain ⟨_,cur,yV⟩:=Y2 I.out.row e.symm;exact J6 yV (s.out.below A s.out.lt) K3 rfl))
   have JZ:Hid (Below w.heap.size w W):=Q0 (Na (bT D.out A) N.out S (fun k e=>(I.out.row.lt k e).1));obtain ⟨vf,vg,hvf⟩:=b_ HDN.out.row;subst hvf;have HMN:Hid ((xs++[(⟨⟨n,false,N7,[],⟨rc,rt⟩,⟨#[]⟩⟩,.slice none 0 0⟩:De)]).map (·.d)=(C.take (i+1)).map (dW fs ms ws)):=by show _=_;rw [mf,HMP.out,HTK.out,mf];congr 1;simp only [zh,uk];rw [HDW.out (by rfl)]
   clear JW N I G4 A HXR;go_wp2;go_roundw
   case rel=>exact ⟨i+1,xs++[(⟨⟨n,false,N7,[],⟨rc,rt⟩,⟨#[]⟩⟩,.slice none 0 0⟩:De)],vf,vg,O0,X0,by go_num,HDN.out,HMN.out,KW.out,HCN.out,JZ.out⟩
   case measure=>simp [intOf];omega
 have HDW:=Q0 hT.out;clear hT hF
 go_upto_region 10 with (first | (refine Bh rfl (yg 47 _ rfl (B:=w1.heap.size) (j:=0) (cs:=[.string l,.string g,.string o]) rfl (fun q v e=>by
  have hq:q<3:=(Jd.1 e).1;rw [R7,xV.out.cell q,show ([.string l,.string g,.string o,.slice la ls.length Z,.bool xo,.int .i64 xc,.string xx,.string J]:List Value)=[.string l,.string g,.string o]++[.slice la ls.length Z,.bool xo,.int .i64 xc,.string xx,.string J] from rfl,Eb hq];exact e) underlying47 rfl (by kernel_rfl)) ?_) | (refine Zi rfl 47 _ _ rfl (B:=F) (j:=2) rfl (vs:=[.string l,.string g,.string o]) rfl C12.out X0 (by intro v hv;simp at hv;rcases hv with rfl | rfl | rfl <;> rfl) U2 ?_;intro t hc4 U))
 have LU:Hid (Cl t F 50 [.string n,.bool true,.string l,.string g,.string o,.slice none 0 0,.int .i64 rc,.string rt]):=Q0 hc4;have SX:=Q0 (xV.out.on U O0);have a0d:Hid (P_ w.heap.size (.slice va xs.length R) xs t):=Q0 (O.out.keep (fun k e=>U.block k (fun c=>by have:=YR.out k (.inl e);omega)) (fun x hx k e=>U.block k (fun c=>by have:=YR.out k (.inr ⟨x,hx,e⟩);omega)));have a0e:=Q0 (Z0 H.out fun k e=>U.block k (fun c=>by have:=RX.out k e;omega));have BS:=Q0 (s.out.on U O0);have dU:=Q0 (D.out.trans (U.below O0));have ES:Q.heap.size<=t.heap.size:=by rw [U.size];exact a1M
 clear hc4 U;have d3:t.cell? ⟨w1.heap.size,3,none⟩=some (.slice la ls.length Z):=SX.out.cell 3;have A:Below t.heap.size t (t.alloc (.cells #[] 52)):=bA;have d3':=(A.cell (p:=⟨w1.heap.size,3,none⟩) SX.out.lt).trans d3;have KZ:=Q0 ((HLZ.out.1.below dU.out).src A);have HRM:Hid ((t.alloc (.cells #[] 52)).ownsRow w.heap.size 52 4 (.slice (some ⟨t.heap.size,0,none⟩) 0 0) 0 []):=Q0 (D5 (Gm t #[] 0 P9 (I5 _) rfl) dU.out.size);have HON:=Q0 (He ls);have S:w.heap.size<=(t.alloc (.cells #[] 52)).heap.size:=by have:=dU.out.size;simp;omega
 have a0f:=Q0 (LU.out.below A LU.out.lt)
 go_upto_region 11 with (refine Ve rfl _ _ 48 rfl w.heap.size 52 4 underlying48 Ol K3 (.slice (some ⟨t.heap.size,0,none⟩) 0 0) 0 [] rfl HRM.out _ ls.length (R4 ls) rfl KZ.out HON.out O0 S ?_;intro v5 X O5 g5 at5;obtain ⟨f,c7,hv5⟩:=b_ O5;rw [R7,Ba] at O5;rw [R7] at hv5;subst hv5;have QV:=Q0 (a0f.out.gb g5 (fun e=>by have:F=t.heap.size:=j6 e;have:=LU.out.lt;omega));have q5:X.cell? ⟨F,5,none⟩=some (.slice none 0 0):=QV.out.cell 5;have f5:=QV.out.opn 5)
 have V5:Hid (∀ k,(Value.slice f ls.length c7).ownBlock=some k->t.heap.size<=k):=fun k e=>by
  rcases at5 with h | h
  · rw [h] at e;have:t.heap.size=k:=j6 e;omega
  rw [h] at e;have:=j6 e;simp at this;omega
 have hon:=I6 X F 5 (.slice f ls.length c7);have a1N:Hid (Cl (X.setCell ⟨F,5,none⟩ (.slice f ls.length c7)) F 50 [.string n,.bool true,.string l,.string g,.string o,.slice f ls.length c7,.int .i64 rc,.string rt]):=Q0 (QV.out.set 5 (.slice f ls.length c7));have hB4:F<t.heap.size:=LU.out.lt;have hgk:∀ k,k<t.heap.size->k≠F->(X.setCell ⟨F,5,none⟩ (.slice f ls.length c7)).heap[k]?=t.heap[k]?:=fun k hk hne=>(hon.block k hne).trans ((g5.block k J4 (fun e=>by have:k=t.heap.size:=j6 e;omega)).trans (A.block k hk));have HGK:=Q0 hgk;have R6:Hid ((X.setCell ⟨F,5,none⟩ (.slice f ls.length c7)).ownsRow w.heap.size 52 4 (.slice f ls.length c7) ls.length (R4 ls)):=Q0 (Z0 O5 fun k e=>hon.block k (by have:=V5.out k e;omega));have a0g:Hid (Below w.heap.size w (X.setCell ⟨F,5,none⟩ (.slice f ls.length c7))):=Q0 ((Na (v:=.slice (some ⟨t.heap.size,0,none⟩) 0 0) (bT dU.out A) g5 S (fun k e=>by have:t.heap.size=k:=j6 e;have:=dU.out.size;omega)).trans (hon.below O0));generalize (X.setCell ⟨F,5,none⟩ (.slice f ls.length c7))=L at*;have O:Hid (P_ w.heap.size (.slice va xs.length R) xs L):=Q0 (a0d.out.keep (fun k e=>HGK.out k (by have:=YR.out k (.inl e);omega) (by have:=YR.out k (.inl e);omega)) (fun x hx k e=>HGK.out k (by have:=YR.out k (.inr ⟨x,hx,e⟩);omega) (by have:=YR.out k (.inr ⟨x,hx,e⟩);omega)));have H:=Q0 (Z0 a0e.out fun k e=>HGK.out k (by have:=RX.out k e;omega) (by have:=RX.out k e;omega));have s:Hid (Cl L w.heap.size 25 [.slice a fs.length cap]):=Q0 ((HGK.out _ BS.out.lt O0).trans BS.out);have D:=a0g;have HNE:Hid (∀ y∈xs,∀ k,y.lv.ownBlock=some k->(Value.slice f ls.length c7).ownBlock≠some k):=fun y hy k e c=>by have:=V5.out k c;have:=YR.out k (.inr ⟨y,hy,e⟩);omega
 clear A hon hgk O5 g5 at5 q5 f5 d3 d3' KZ HRM HON S LU a0f QV SX a0d a0e BS dU a0g HGK;have A:Below L.heap.size L (L.alloc (.cells #[.string n,.bool true,.string l,.string g,.string o,.slice f ls.length c7,.int .i64 rc,.string rt] 50)):=bA;have I:=Q0 (O.out.below A);have G4:Hid (Cl (L.alloc (.cells #[.string n,.bool true,.string l,.string g,.string o,.slice f ls.length c7,.int .i64 rc,.string rt] 50)) L.heap.size 50 [.string n,.bool true,.string l,.string g,.string o,.slice f ls.length c7,.int .i64 rc,.string rt]):=Q0 (U1 L _ 50);have HXR:Hid (World.ownsRow (L.alloc (.cells #[.string n,.bool true,.string l,.string g,.string o,.slice f ls.length c7,.int .i64 rc,.string rt] 50)) w.heap.size 52 4 (.slice f ls.length c7) (⟨⟨n,true,⟨l,g,o⟩,ls,⟨rc,rt⟩,J⟩,.slice f ls.length c7⟩:De).d.ls.length (R4 (⟨⟨n,true,⟨l,g,o⟩,ls,⟨rc,rt⟩,J⟩,.slice f ls.length c7⟩:De).d.ls)):=Q0 (ownsRow_below R6.out A);have S:w.heap.size<=(L.alloc (.cells #[.string n,.bool true,.string l,.string g,.string o,.slice f ls.length c7,.int .i64 rc,.string rt] 50)).heap.size:=by have:=D.out.size;simp;omega
 go_wp2_with (first | (refine Bh rfl (yg 50 _ rfl (B:=F) (j:=0) (cs:=[.string n,.bool true,.string l,.string g,.string o,.slice f ls.length c7,.int .i64 rc,.string rt]) rfl (fun q v e=>by rw [R7];exact (a1N.out.cell q).trans e) underlying50 rfl U2) ?_) | (refine Ve rfl _ _ 28 rfl w.heap.size 50 8 underlying28 zG K3 (.slice va xs.length R) xs.length (Zo xs) rfl I.out.row _ 1 [.string n,.bool true,.string l,.string g,.string o,.slice f ls.length c7,.int .i64 rc,.string rt] rfl (.inr ⟨⟨L.heap.size,0,none⟩,1,rfl,rfl,za G4.out⟩) (by intro v hv;simp at hv;rcases hv with rfl | rfl | rfl | rfl | rfl | rfl | rfl | rfl <;> rfl) O0 S ?_;intro v' W O9 g9 at9;have JW:=Q0 O9;have N:=Q0 g9;clear O9 g9 at9))
 have HDN:Hid (P_ w.heap.size v' (xs++[⟨⟨n,true,⟨l,g,o⟩,ls,⟨rc,rt⟩,J⟩,.slice f ls.length c7⟩]) W):=Q0 (I.out.snoc (x:=⟨⟨n,true,⟨l,g,o⟩,ls,⟨rc,rt⟩,J⟩,.slice f ls.length c7⟩) HXR.out HNE.out JW.out N.out);have KW:=Q0 (Nn (ownsRow_below H.out A) I.out.row K3 N.out);have HCN:Hid (Cl W w.heap.size 25 [.slice a fs.length cap]):=Q0 ((s.out.below A s.out.lt).gb N.out (fun e=>by
  obtain ⟨_,cur,yV⟩:=Y2 I.out.row e.symm;exact J6 yV (s.out.below A s.out.lt) K3 rfl))
 have JZ:Hid (Below w.heap.size w W):=Q0 (Na (bT D.out A) N.out S (fun k e=>(I.out.row.lt k e).1));obtain ⟨vf,vg,hvf⟩:=b_ HDN.out.row;subst hvf;have HMN:Hid ((xs++[(⟨⟨n,true,⟨l,g,o⟩,ls,⟨rc,rt⟩,J⟩,.slice f ls.length c7⟩:De)]).map (·.d)=(C.take (i+1)).map (dW fs ms ws)):=by show _=_;rw [mf,HMP.out,HTK.out,mf];congr 1;simp only [zh,uk];rw [HDW.out (by rfl)]
 clear JW N I G4 A HXR;go_wp2;go_roundw
 case rel=>exact ⟨i+1,xs++[(⟨⟨n,true,⟨l,g,o⟩,ls,⟨rc,rt⟩,J⟩,.slice f ls.length c7⟩:De)],vf,vg,O0,X0,by go_num,HDN.out,HMN.out,KW.out,HCN.out,JZ.out⟩
 case measure=>simp [intOf];omega
theorem PQ (a:Option Addr) (cap:Nat) (fs:List F2) (ms:List M3) (nm:ByteArray) (w:World) (O:F3 w a fs) (m:X3 fs) (F:H6 fs ms) (H:J2 nm.data.toList=true):
 Calls prog 7 #[.agg #[.slice a fs.length cap],.string nm] w fun e w'=>(∃ v,e=.returned v/\∃ xs,P_ w.heap.size v xs w'/\Wh (P5 fs ms) nm (xs.map (·.d)))/\Below w.heap.size w w':=by
 have C:=Q0 O;have h:=Q0 m;have j:=Q0 F;have Z:fs.length<=1048576:=by have:=m.1;omega
 have HF:=Q0 (Xl m);have hns:=Qb H;have A:∀ o1,Below w.heap.size w (w.alloc o1):=fun o1=>bA;clear O m F;go_enter func7,ntmps7
 go_wp2_with fail
 refine (G.T.c8 a cap fs _ Z HF.out (G.T.U0 C.out (A _))).mono ?_;rintro e w1 ⟨⟨b,rfl,N⟩,n⟩;obtain rfl:b=true:=N.2 h.out;have hB1:=(A _).trans (n.mono X0);have t1:w1.cell? ⟨w.heap.size,0,none⟩=some (.slice a fs.length cap):=(n.cell (p:=⟨w.heap.size,0,none⟩) X0).trans (by simp [go_sem]);have X:w.heap.size<w1.heap.size:=by have:=n.size;simp at this;omega
 clear N n A
 go_wp2_with fail
 refine (c24 nm w1 O0).mono ?_;rintro e V ⟨J,rfl⟩;have e':e=.returned (.bool true):=by rw [J];exact V3 (fun b=>Ending.returned (.bool b)) H
 subst e';clear J
 go_upto_region 3 with fail
 obtain ⟨g,l⟩:∃ x:World,x=V.drew:=⟨_,rfl⟩;have P:Below w.heap.size w g:=by rw [l];exact hB1.drew
 refine F7 (S:=fun u=>u.cell? ⟨w.heap.size,0,none⟩=some (.slice a fs.length cap)) U2 ?_ fun c=>?_
 · exact t1
 rw [<- l] at c ⊢;have r:w.heap.size<g.heap.size:=by rw [l];exact X
 have D:g.cell? ⟨w.heap.size,0,none⟩=some (.slice a fs.length cap):=c;clear l;refine tq 0 c ?_;refine tq 1 c ?_;refine I4 3 c ?_;refine rq 2 fun K k=>?_;go_simp;refine (gQ (P5 fs ms) a cap fs ms rfl g (G.T.U0 C.out P) h.out j.out).mono ?_;rintro e q ⟨v,ws,rfl,f,hM,hB⟩;have Y:ws.length=ms.length:=by have:=V3 List.length hM;simpa using this
 obtain ⟨U,wc,hv,E⟩:=Zp f.row;subst hv;have R:=Q0 (zb h.out j.out);have UX:Hid (ws.length<=300):=by have:=Fa j.out;show _<=_;omega
 have HWY:=Q0 (QL h.out j.out f.ok hM hB);have HDO:=Q0 (Vr h.out j.out f.ok hM hB);have o:Below g.heap.size g q:=f.bl;have z:=bT P o;have Q:=dR (P5 fs ms) a cap fs ms rfl U wc ws nm q (G.T.U0 C.out z) h.out j.out UX.out E (fun i s=>⟨f.lv i s,(ze R.out (R.out.ms _ (f.ok i s).mem) (f.ok i s).his).1⟩) HWY.out HDO.out;clear f hM hB Y E;go_simp;clear c;refine Z6 k ?_ fun c=>?_
 · exact (o.cell (p:=⟨w.heap.size,0,none⟩) r).trans D
 clear k K;refine rq 4 fun K k=>?_;go_simp;refine Q.mono ?_;rintro e x2 ⟨⟨v,rfl,xs,t,L⟩,y⟩;obtain ⟨va,vc,hv⟩:=b_ t.row;subst hv;have B:=Q0 t;have IW:=Q0 L;have RV:=Q0 (bT z y);have I:w.heap.size<=q.heap.size:=z.size;have W:=(y.cell (p:=⟨w.heap.size,0,none⟩) (D7 r o.size)).trans ((o.cell (p:=⟨w.heap.size,0,none⟩) r).trans D);clear Q t L y;go_simp;clear c;refine k.out _ _ ?_ fun c=>?_
 · exact W
 clear k K;refine I4 5 c ?_;refine a_ ?_;clear c;go_wp2;go_ret;exact ⟨⟨_,rfl,xs,⟨D5 B.out.row I,fun x hx=>D5 (B.out.lk x hx) I,B.out.ne⟩,IW.out⟩,RV.out⟩
theorem XQ (a:Option Addr) (cap:Nat) (fs:List F2) (nm:ByteArray) (w:World) (p:fs.length<=1048576) (g:∀ i,(fs.getD i P6).le 1048576) (n:F3 w a fs) (hns:nm.size<=1048576) (j:¬ X3 fs\/J2 nm.data.toList=false):
 Calls prog 7 #[.agg #[.slice a fs.length cap],.string nm] w fun e w'=>(∃ v,e=.returned v/\P_ w.heap.size v [] w')/\Below w.heap.size w w':=by
 have u:=Q0 n;have s:=Q0 g;have r:=Q0 j;have f:∀ o1,Below w.heap.size w (w.alloc o1):=fun o1=>bA;clear n g j;go_enter func7,ntmps7
 go_wp2_with fail
 refine (G.T.c8 a cap fs _ p s.out (G.T.U0 u.out (f _))).mono ?_;rintro e w1 ⟨⟨b,rfl,m⟩,l⟩;have d:=(f _).trans (l.mono X0);have c:Hid (P_ w.heap.size (.slice (some ⟨w1.heap.size,0,none⟩) 0 0) [] (w1.alloc (.cells #[] 50))/\Below w.heap.size w (w1.alloc (.cells #[] 50))):=⟨⟨D5 (Gm w1 #[] 0 P9 (I5 _) rfl) d.size,(fun x h=>by cases h),List.Pairwise.nil⟩,d.alloc d.size _⟩;have t:=Q0 m;clear m l f;cases b
 · go_wp2
   go_ret;exact ⟨⟨_,rfl,c.out.1⟩,c.out.2⟩
 have o:J2 nm.data.toList=false:=by
  rcases r.out with h | h
  · exact absurd (t.out.1 rfl) h
  exact h
 go_wp2_with fail
 refine (c24 nm w1 O0).mono ?_;rintro e w2 ⟨k,rfl⟩;have q:e=.returned (.bool false):=by rw [k];exact V3 (fun b=>Ending.returned (.bool b)) o
 subst q;clear k;go_wp2;go_ret;exact ⟨⟨_,rfl,c.out.1⟩,c.out.2⟩
end Go.Proofs.YtdjaajjndfbpmaaGreatDoor
