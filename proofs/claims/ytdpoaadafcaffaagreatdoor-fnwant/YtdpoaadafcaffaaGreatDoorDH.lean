import Derived.Test.YtdpoaadafcaffaaGreatDoorDF
set_option linter.unusedVariables false
set_option maxHeartbeats 8000000
set_option maxRecDepth 100000
namespace Go.Proofs.YtdpoaadafcaffaaGreatDoor
open Proofs.Tryz
open Go.RowKit
open G (Ke Q6)
open G.T (F2 L6 Y3 U3 lt)
theorem r16 (B3 nb no m cc i:Nat) (a:Option Addr) (cap fl:Nat) (wa:Option Addr) (wc:Nat) (ws:List W8) (n:ByteArray) (mb:Bool) (rc:Int) (rt:ByteArray) (w:World) (u0 u2 u4 u5 u6 u7 u10 u12 u13 u14 u15 u16 u17 u18 u19 u20 u21 u22 u23 u24 u25 u26 u27 u28 u29 u30 u31 u32 u33 u34 u35 u36 u37 u38 u39 u40 u41 u42 u43 u44 u45 u46 u47 u48 u49 u50 u51 u52 u53 u54 u55 u56 u57 u58:Value) {Q:Exit->Act->World->Prop} (hQ:∀ c (a:Act) (d:Option Tmp) (v:Value) w,Q (.panic c) (a.put d v) w->Q (.panic c) a w) (c3:w.cell? ⟨B3,0,none⟩=some (.slice a fl cap)) (hB3:B3<w.heap.size) (cn:w.cell? ⟨nb,no+i,none⟩=some (.string n)) (hnb:nb<w.heap.size) (hi:i<m) (hm:m<=1000) (AO:Hid (∀ u,Below w.heap.size w u->Calls prog 23 #[.agg #[.slice a fl cap],.slice wa ws.length wc,.string n] u fun e w'=>e=.returned (.agg #[.int .i64 rc,.string rt])/\Below u.heap.size u w'))
 (uM:∀ (t32 t33 t34 t35 t36 t37 t38 t39 t40 t41 t42 t43 t44:Value) (BO:Nat) (w':World),w.heap.size<=BO->Cl w' BO 38 [.string n,.bool mb,.string ⟨#[]⟩,.string ⟨#[]⟩,.string ⟨#[]⟩,.slice none 0 0,.int .i64 rc,.string rt]->Below w.heap.size w w'->Q .normal { tmps:=#[u0,.slice wa ws.length wc,u2,.pointer (some ⟨B3,0,none⟩),u4,u5,u6,u7,.slice (some ⟨nb,no,none⟩) m cc,.int .i64 (i:Int),u10,.bool mb,.pointer (some ⟨BO,0,none⟩),u13,u14,u15,u16,u17,u18,u19,u20,u21,u22,u23,u24,u25,u26,u27,u28,u29,u30,u31,t32,t33,t34,t35,t36,t37,t38,t39,t40,t41,t42,t43,t44,u45,u46,u47,u48,u49,u50,u51,u52,u53,u54,u55,u56,u57,u58],defers:=[] } w'):
 (Code.region 7 #[⟨some 32,.move (.tmp 8),73, "l4_want.go:194",#[],none⟩,⟨some 33,.move (.tmp 9),3, "l4_want.go:194",#[],none⟩,⟨some 34,.indexAddr 73 (.tmp 32) (.tmp 33),0, "l4_want.go:194",#[⟨0,.data⟩,⟨1,.data⟩],none⟩,⟨some 35,.load 9 (.tmp 34),9, "l4_want.go:194",#[⟨2,.data⟩],none⟩,⟨some 36,.move (.tmp 11),4, "l4_want.go:194",#[],none⟩,⟨some 37,.load 25 (.tmp 3),25, "l4_want.go:194",#[],none⟩,⟨some 38,.move (.tmp 1),59, "l4_want.go:194",#[],none⟩,⟨some 39,.move (.tmp 8),73, "l4_want.go:194",#[],none⟩,⟨some 40,.move (.tmp 9),3, "l4_want.go:194",#[],none⟩,⟨some 41,.indexAddr 73 (.tmp 39) (.tmp 40),0, "l4_want.go:194",#[⟨7,.data⟩,⟨8,.data⟩],none⟩,⟨some 42,.load 9 (.tmp 41),9, "l4_want.go:194",#[⟨9,.data⟩],none⟩,⟨some 43,.call ⟨.value (.func 23),#[.tmp 37,.tmp 38,.tmp 42],#[25,59,9]⟩,31, "l4_want.go:194",#[⟨5,.data⟩,⟨6,.data⟩,⟨10,.data⟩],none⟩,⟨some 44,.build 38 #[(0,.tmp 35),(1,.tmp 36),(4,.tmp 43)],38, "l4_want.go:194",#[⟨3,.data⟩,⟨4,.data⟩,⟨11,.data⟩],none⟩,⟨some 12,.alloc 38,0, "l4_want.go:194",#[],none⟩,⟨none,.store 38 (.tmp 12) (.tmp 44),0, "l4_want.go:194",#[⟨13,.data⟩,⟨12,.data⟩,⟨11,.chain⟩,⟨0,.phase⟩,⟨1,.phase⟩,⟨2,.phase⟩,⟨3,.phase⟩,⟨4,.phase⟩,⟨5,.phase⟩,⟨6,.phase⟩,⟨7,.phase⟩,⟨8,.phase⟩,⟨9,.phase⟩,⟨10,.phase⟩,⟨11,.phase⟩,⟨12,.phase⟩,⟨13,.phase⟩],none⟩] true).wp prog Q { tmps:=#[u0,.slice wa ws.length wc,u2,.pointer (some ⟨B3,0,none⟩),u4,u5,u6,u7,.slice (some ⟨nb,no,none⟩) m cc,.int .i64 (i:Int),u10,.bool mb,u12,u13,u14,u15,u16,u17,u18,u19,u20,u21,u22,u23,u24,u25,u26,u27,u28,u29,u30,u31,u32,u33,u34,u35,u36,u37,u38,u39,u40,u41,u42,u43,u44,u45,u46,u47,u48,u49,u50,u51,u52,u53,u54,u55,u56,u57,u58],defers:=[] } w:=by
 refine wp_region_held_drew (S:=fun u=>u.cell? ⟨nb,no+i,none⟩=some (.string n)/\u.cell? ⟨B3,0,none⟩=some (.slice a fl cap)) I1 ⟨cn,c3⟩ fun hH=>?_;obtain ⟨x0,hx0⟩:∃ x:World,x=w.drew:=⟨_,rfl⟩;rw [<- hx0] at hH ⊢;have KO:Below w.heap.size w x0:=by rw [hx0];exact (Below.refl _ w).drew
 clear hx0;refine tq 0 hH ?_;refine tq 1 hH ?_;refine tq 2 hH ?_;refine tq 3 hH ?_ (v:=?_) (hv:=?e)
 case e=>intro wq hSw;(try dsimp only at hSw);obtain ⟨s1,s2⟩:=hSw;go_simp;try with_reducible rfl
 refine tq 4 hH ?_;refine tq 5 hH ?_ (v:=?_) (hv:=?e)
 case e=>intro wq hSw;(try dsimp only at hSw);obtain ⟨s1,s2⟩:=hSw;go_simp;try with_reducible rfl
 refine tq 6 hH ?_;refine tq 7 hH ?_;refine tq 8 hH ?_;refine tq 9 hH ?_;refine tq 10 hH ?_ (v:=?_) (hv:=?e)
 case e=>intro wq hSw;(try dsimp only at hSw);obtain ⟨s1,s2⟩:=hSw;go_simp;try with_reducible rfl
 try simp only [qq]
 refine wpAnyH_ready (rs:=[11,13]) I1 U0 (AllReadyH.cons (o:=⟨some 43,.call ⟨.value (.func 23),#[.tmp 37,.tmp 38,.tmp 42],#[25,59,9]⟩,31,_,_,none⟩) rfl (fun K hK=>?_) (AllReadyH.cons (o:=⟨some 12,.alloc 38,0,_,_,none⟩) rfl (fun K hK=>?_) AllReadyH.nil))
 · go_simp
   refine (AO.out x0 KO).mono ?_;rintro e x1 ⟨rfl,AQ⟩;have vM:=bT KO AQ;clear AQ;go_simp;clear hH;refine hK.out _ _ ?_ fun hH=>?_
   · exact ⟨(vM.cell (p:=⟨nb,no+i,none⟩) hnb).trans cn,(vM.cell (p:=⟨B3,0,none⟩) hB3).trans c3⟩
   clear hK K;refine tq 12 hH ?_
   try simp only [qq]
   refine rq 13 fun K hK=>?_;go_simp;obtain ⟨x2,hx2⟩:∃ x:World,x=x1.alloc (.cells #[.string ⟨#[]⟩,.bool false,.string ⟨#[]⟩,.string ⟨#[]⟩,.string ⟨#[]⟩,.slice none 0 0,.int .i64 0,.string ⟨#[]⟩] 38):=⟨_,rfl⟩;rw [<- hx2];have iW:Below x1.heap.size x1 x2:=by rw [hx2];exact bA
   have eU:Hid (Cl x2 x1.heap.size 38 [.string ⟨#[]⟩,.bool false,.string ⟨#[]⟩,.string ⟨#[]⟩,.string ⟨#[]⟩,.slice none 0 0,.int .i64 0,.string ⟨#[]⟩]):=by show Cl _ _ _ _;rw [hx2];exact F3 x1 _ 38
   have XL:=bT vM iW;have z12:w.heap.size<=x1.heap.size:=vM.size;clear hx2;clear hH;refine hK.out _ _ ?_ fun hH=>?_
   · exact ⟨(XL.cell (p:=⟨nb,no+i,none⟩) hnb).trans cn,(XL.cell (p:=⟨B3,0,none⟩) hB3).trans c3⟩
   clear hK K
   try simp only [qq]
   refine rq 14 fun K hK=>?_;refine Xe rfl 38 _ _ rfl (B:=x1.heap.size) (j:=0) rfl (vs:=[.string n,.bool mb,.string ⟨#[]⟩,.string ⟨#[]⟩,.string ⟨#[]⟩,.slice none 0 0,.int .i64 rc,.string rt]) rfl eU.out U0 (by intro v hv;simp at hv;rcases hv with rfl | rfl | rfl | rfl | rfl | rfl <;> rfl) I1 ?_;intro x3 hc ho;have bM:=XL.trans (ho.below z12);have CY:Hid (Cl x3 x1.heap.size 38 [.string n,.bool mb,.string ⟨#[]⟩,.string ⟨#[]⟩,.string ⟨#[]⟩,.slice none 0 0,.int .i64 rc,.string rt]):=Q0 hc;clear hc ho;clear hH;refine hK.out _ _ ?_ fun hH=>?_
   · exact ⟨(bM.cell (p:=⟨nb,no+i,none⟩) hnb).trans cn,(bM.cell (p:=⟨B3,0,none⟩) hB3).trans c3⟩
   clear hK K
   try simp only [qq]
   refine wpAnyH_done I1 ?_ _;exact uM _ _ _ _ _ _ _ _ _ _ _ _ _ _ _ z12 CY.out bM
 go_simp;obtain ⟨x1,hx1⟩:∃ x:World,x=x0.alloc (.cells #[.string ⟨#[]⟩,.bool false,.string ⟨#[]⟩,.string ⟨#[]⟩,.string ⟨#[]⟩,.slice none 0 0,.int .i64 0,.string ⟨#[]⟩] 38):=⟨_,rfl⟩;rw [<- hx1];have tZ:Below x0.heap.size x0 x1:=by rw [hx1];exact bA
 have eU:Hid (Cl x1 x0.heap.size 38 [.string ⟨#[]⟩,.bool false,.string ⟨#[]⟩,.string ⟨#[]⟩,.string ⟨#[]⟩,.slice none 0 0,.int .i64 0,.string ⟨#[]⟩]):=by show Cl _ _ _ _;rw [hx1];exact F3 x0 _ 38
 have vM:=bT KO tZ;have z12:w.heap.size<=x0.heap.size:=KO.size;clear hx1;clear hH;refine hK.out _ _ ?_ fun hH=>?_
 · exact ⟨(vM.cell (p:=⟨nb,no+i,none⟩) hnb).trans cn,(vM.cell (p:=⟨B3,0,none⟩) hB3).trans c3⟩
 clear hK K
 try simp only [qq]
 refine rq 11 fun K hK=>?_;go_simp;refine (AO.out x1 vM).mono ?_;rintro e x2 ⟨rfl,TL⟩;have XL:=bT vM TL;have eU:=Q0 (eU.out.below TL eU.out.lt);clear TL;go_simp;clear hH;refine hK.out _ _ ?_ fun hH=>?_
 · exact ⟨(XL.cell (p:=⟨nb,no+i,none⟩) hnb).trans cn,(XL.cell (p:=⟨B3,0,none⟩) hB3).trans c3⟩
 clear hK K;refine tq 12 hH ?_
 try simp only [qq]
 refine rq 14 fun K hK=>?_;refine Xe rfl 38 _ _ rfl (B:=x0.heap.size) (j:=0) rfl (vs:=[.string n,.bool mb,.string ⟨#[]⟩,.string ⟨#[]⟩,.string ⟨#[]⟩,.slice none 0 0,.int .i64 rc,.string rt]) rfl eU.out U0 (by intro v hv;simp at hv;rcases hv with rfl | rfl | rfl | rfl | rfl | rfl <;> rfl) I1 ?_;intro x3 hc ho;have bM:=XL.trans (ho.below z12);have CY:Hid (Cl x3 x0.heap.size 38 [.string n,.bool mb,.string ⟨#[]⟩,.string ⟨#[]⟩,.string ⟨#[]⟩,.slice none 0 0,.int .i64 rc,.string rt]):=Q0 hc;clear hc ho;clear hH;refine hK.out _ _ ?_ fun hH=>?_
 · exact ⟨(bM.cell (p:=⟨nb,no+i,none⟩) hnb).trans cn,(bM.cell (p:=⟨B3,0,none⟩) hB3).trans c3⟩
 clear hK K
 try simp only [qq]
 refine wpAnyH_done I1 ?_ _;exact uM _ _ _ _ _ _ _ _ _ _ _ _ _ _ _ z12 CY.out bM
theorem Ua {w:World} {base nb no cc:Nat} {C:List ByteArray} (h:w.ownsRow base 9 1 (.slice (some ⟨nb,no,none⟩) C.length cc) C.length (Oc C)) {i:Nat} (hi:i<C.length):w.cell? ⟨nb,no+i,none⟩=some (.string (C.getD i ⟨#[]⟩))/\nb<w.heap.size:=by
 obtain ⟨a,c,e,hn⟩:=Xb h;injection e with e _ _;subst e;rcases hn with hn | ⟨b,off,e,h1,h2⟩
 · rw [hn] at hi;cases hi
 injection e with e;injection e with e1 e2;subst e1 e2;exact ⟨h2 i hi,h1⟩
theorem XK (E:Env) (a:Option Addr) (cap:Nat) (fs:List F2) (ms:List M3) (hE:E=o7 fs ms) (wa:Option Addr) (wc:Nat) (ws:List W8) (nm:ByteArray) (w:World) (hat:U3 w a fs) (ht:Y3 fs) (hp:Q6 fs ms) (yQ:ws.length<=300) (hws:Uf w wa ws) (hlv:∀ i,i<ws.length->Nc w (ws.getD i I8)/\(ws.getD i I8).ls.length<=15) (hw:wJ E ws) (hd:∀ n,Fa E n (dW fs ms ws n)):
 Calls prog 25 #[.agg #[.slice a fs.length cap],.slice wa ws.length wc,.string nm] w fun e w'=>(∃ v,e=.returned v/\∃ xs,V_ w.heap.size v xs w'/\gm E nm (xs.map (·.d)))/\Below w.heap.size w w':=by
 have yM:l8 E:=by rw [hE];exact qc ht hp
 have hms:E.ms.length<=30:=by rw [hE];show (ms.map toM).length<=30;rw [List.length_map];exact Ba hp
 have HAT:=Q0 hat;have HT:=Q0 ht;have HP:=Q0 hp;have QP:=Q0 hws;have RN:=Q0 hlv;have rW:=Q0 hd;have wM:=Q0 yM;have hfl:fs.length<=1048576:=by have:=ht.1;omega
 have HF:=Q0 (Bh ht);obtain ⟨u0,hu0⟩:∃ u:World,u=w.alloc (.cells #[.slice a fs.length cap] 25):=⟨_,rfl⟩;obtain ⟨u1,hu1⟩:∃ u:World,u=u0.alloc (.cells #[] 38):=⟨_,rfl⟩;have NR:=Q0 hu0;have HU1:=Q0 hu1;have b0:Below w.heap.size w u0:=by rw [hu0];exact bA
 have b1:Below w.heap.size w u1:=by rw [hu1];exact b0.alloc b0.size _
 have C3:Hid (Cl u1 w.heap.size 25 [.slice a fs.length cap]):=by show Cl _ _ _ _;rw [hu1,hu0];exact B_ (F3 w _ 25) _
 have hz0:u0.heap.size=w.heap.size+1:=by rw [hu0];simp
 have R0:Hid (u1.ownsRow w.heap.size 38 8 (.slice (some ⟨w.heap.size+1,0,none⟩) 0 0) 0 []):=by show World.ownsRow _ _ _ _ _ _ _;rw [hu1,<- hz0];exact World.ownsRow_made u0 #[] 0 b0.size (Nat.zero_le _) rfl
 have fU:=c49 E yM hms wa wc ws nm u1 yQ (Gb hws b1) (fun i hi=>⟨(hlv i hi).1.below b1,(hlv i hi).2⟩) hw;have HLEN:Hid (∀ C,Ck C->(∀ k,k∈C↔Xm E nm k)->C.length<=481):=fun C h1 h2=>Xh yM hms (Lg h1) (fun k hk=>(h2 k).1 hk);clear hat ht hp hws hlv hw hd yM hms hE hu0 hu1 b0;go_enter func25,ntmps25
 go_upto_region 2 with fail
 rw [<- NR.out,<- HU1.out];clear NR HU1
 go_wp2_with fail
 refine fU.mono ?_;rintro e u2 ⟨⟨v8,rfl,C,AZ,hasc,hmem⟩,hb2⟩;have a3a:=HLEN.out C hasc hmem;have AZ:=V4 AZ b1.size;obtain ⟨ca,cc,RY,GR⟩:=Xb AZ;subst RY;obtain ⟨nb,no,hca⟩:∃ nb no,ca=some ⟨nb,no,none⟩:=by
  rcases GR with h | ⟨b,off,h,_⟩
  · have:=(hmem nm).2 .base
    rw [h] at this;cases this
  exact ⟨b,off,h⟩
 subst hca;have BQ:=Q0 AZ;have dN:=Q0 (C3.out.below hb2 C3.out.lt);have wZ:=Q0 (ownsRow_below R0.out hb2);have SL:=Q0 (bT b1 hb2);have a1w:=Q0 hasc;have a1x:=Q0 hmem;clear fU AZ hasc hmem GR hb2 b1 R0 C3 HLEN
 go_wp2_with fail
 go_loopw [7,9] (fun v7 v9 wr=>∃ (i:Nat) (xs:List De) (va:Option Addr) (vc:Nat),i<=C.length/\v7=.slice va xs.length vc/\v9=.int .i64 i/\Hid (V_ w.heap.size (.slice va xs.length vc) xs wr)/\Hid (xs.map (·.d)=(C.take i).map (dW fs ms ws))/\Hid (wr.ownsRow w.heap.size 9 1 (.slice (some ⟨nb,no,none⟩) C.length cc) C.length (Oc C))/\Hid (Cl wr w.heap.size 25 [.slice a fs.length cap])/\Hid (Below w.heap.size w wr)) (fun _ v9 _=>C.length - (intOf v9).toNat)
 case atStart=>exact ⟨0,[],_,_,Nat.zero_le _,rfl,rfl,⟨wZ.out,(fun x h=>by cases h),List.Pairwise.nil⟩,rfl,BQ.out,dN.out,SL.out⟩
 clear wZ BQ dN SL;obtain ⟨i,xs,va,vc,hi,rfl,rfl,HDR,HMP,BQ,dN,SL⟩:=hrel;have hxl:xs.length<=481:=by have:=congrArg List.length HMP.out;simp at this;omega
 by_cases hlt:i<C.length;rotate_left
 · obtain rfl:i=C.length:=O0
   have BZ:Hid (gm E nm (xs.map (·.d))):=by
    have e1:xs.map (·.d)=C.map (dW fs ms ws):=by rw [HMP.out,List.take_length]
    have e2:(xs.map (·.d)).map (·.nm)=C:=by
     rw [e1,List.map_map];exact (List.map_congr_left fun n _=>Sk (rW.out n)).trans (List.map_id _)
    refine ⟨by rw [e2];exact a1w.out,fun d hdm=>?_,fun k=>by rw [e2];exact a1x.out k⟩;rw [e1] at hdm;obtain ⟨n,_,rfl⟩:=List.mem_map.1 hdm;have:=rW.out n;rw [<- Sk this] at this;rw [Sk (rW.out n)] at this ⊢;exact rW.out n
   go_wp2;go_ret;exact ⟨⟨_,rfl,xs,HDR.out,BZ.out⟩,SL.out⟩
 obtain ⟨gN,hnb⟩:=Ua BQ.out hlt;have sW:Hid (C.take (i+1)=C.take i++[C.getD i ⟨#[]⟩]):=by show _=_;rw [List.take_succ_eq_append_getElem hlt];simp [List.getD,List.getElem?_eq_getElem hlt]
 generalize C.getD i ⟨#[]⟩=n at*;have gU:=IK wa wc ws n wr yQ (Gb QP.out SL.out) (fun j hj=>by obtain ⟨x,y,h,_⟩:=(RN.out j hj).1;exact ⟨x,_,y,h⟩);obtain ⟨z,mb,e1,e2,HLZ,hT,hF⟩:∃ (z:W8) (mb:Bool),(g_ ws n).getD I8=z/\(g_ ws n).isSome=mb/\Hid (Nc w z/\z.ls.length<=15)/\Hid (mb=true->dW fs ms ws n=⟨n,true,z.m,z.ls,Mi (Sg fs ms ws n),z.wt⟩)/\Hid (mb=false->dW fs ms ws n=⟨n,false,X6,[],Mi (Sg fs ms ws n),⟨#[]⟩⟩):=by
  cases hf:g_ ws n with
  | none=>exact ⟨I8,false,rfl,rfl,⟨⟨none,0,rfl,.inl rfl,fun k e=>by cases e⟩,by simp [I8]⟩,(fun h=>by cases h),fun _=>by unfold dW;rw [hf]⟩
  | some z=>
   obtain ⟨_,j,hj,e⟩:=Qe hf;exact ⟨z,true,rfl,rfl,by rw [<- e];exact RN.out j hj,(fun _=>by unfold dW;rw [hf]),fun h=>by cases h⟩
 rw [e1,e2] at gU;obtain ⟨rr,HRR⟩:∃ r,Hid (Mi (Sg fs ms ws n)=r):=⟨_,rfl⟩;have AO:Hid (∀ u,Below w.heap.size w u->Calls prog 23 #[.agg #[.slice a fs.length cap],.slice wa ws.length wc,.string n] u fun e w'=>e=.returned (.agg #[.int .i64 rr.code,.string rr.tx])/\Below u.heap.size u w'):=fun u hu=>by
  have:=c23 a cap fs ms wa wc ws n u hfl HF.out (G.T.X0 HAT.out hu) HT.out HP.out yQ (Gb QP.out hu);rw [HRR.out] at this;exact this
 rw [HRR.out] at hT hF;obtain ⟨rc,rt⟩:=rr;dsimp only at AO;obtain ⟨la,lc,hla,hlk,hlb⟩:=HLZ.out.1;have mW:=HLZ.out.2;obtain ⟨⟨xn,xt,xa⟩,xl,ls,xo,xc,xx,xw⟩:=z;dsimp only at hla hT mW;subst hla;clear e1 e2 hlk hlb
 go_wp2_with fail
 refine gU.mono ?_;rintro e w1 ⟨rfl,hb1⟩;rw [show (W8.vs ⟨⟨xn,xt,xa⟩,.slice la ls.length lc,ls,xo,xc,xx,xw⟩).toArray=#[.string xn,.string xt,.string xa,.slice la ls.length lc,.bool xo,.int .i64 xc,.string xx,.string xw] from rfl]
 go_upto_region 7 with (refine Ye rfl 102 _ _ rfl (B:=w1.heap.size) (j:=0) rfl (vs:=[.string xn,.string xt,.string xa,.slice la ls.length lc,.bool xo,.int .i64 xc,.string xx,.string xw]) rfl (F3 w1 z8 102) (by simp [z8]) (by intro v hv;simp at hv;rcases hv with rfl | rfl | rfl | rfl | rfl | rfl | rfl | rfl <;> rfl) I1 ?_;intro w2 hc2 ho2)
 have hb2:=hb1.trans ((bA.trans (ho2.below Q8)).mono hb1.size);have dO:Hid (Cl w2 w1.heap.size 102 [.string xn,.string xt,.string xa,.slice la ls.length lc,.bool xo,.int .i64 xc,.string xx,.string xw]):=Q0 hc2;have HDR:=Q0 (HDR.out.below hb2);have BQ:=Q0 (ownsRow_below BQ.out hb2);have dN:=Q0 (dN.out.below hb2 dN.out.lt);have SL:=Q0 (bT SL.out hb2);have gN2:=(hb2.cell (p:=⟨nb,no+i,none⟩) hnb).trans gN;have CZ:=Nat.lt_of_lt_of_le hnb hb2.size;have a3n:w.heap.size<w2.heap.size:=dN.out.lt;have a1y:Hid (∀ k,((Value.slice va xs.length vc).ownBlock=some k\/∃ x∈xs,x.lv.ownBlock=some k)->k<w2.heap.size):=fun k h=>h.elim (fun e=>(HDR.out.row.lt k e).2) (fun ⟨x,hx,e⟩=>((HDR.out.lk x hx).lt k e).2);have a1z:Hid (∀ k,(Value.slice (some ⟨nb,no,none⟩) C.length cc).ownBlock=some k->k<w2.heap.size):=fun k e=>(BQ.out.lt k e).2;have a3o:w1.heap.size<w2.heap.size:=dO.out.lt;clear gU hc2 ho2 hb1 hb2 gN
 try simp only [qq]
 refine r16 w.heap.size nb no C.length cc i a cap fs.length wa wc ws n mb rc rt w2 _ _ _ _ _ _ _ _ _ _ _ _ _ _ _ _ _ _ _ _ _ _ _ _ _ _ _ _ _ _ _ _ _ _ _ _ _ _ _ _ _ _ _ _ _ _ _ _ _ _ _ _ _ _ ?hq1 (dN.out.cell 0) dN.out.lt gN2 CZ hlt O0 (Q0 fun u hu=>AO.out u (bT SL.out hu)) ?vZ
 case hq1=>exact fun _ _ d _ _ h=>by cases d <;> exact h
 intro t32 t33 t34 t35 t36 t37 t38 t39 t40 t41 t42 t43 t44 BO w3 a3p hc3 hb3;have eU:=Q0 hc3;have dO:=Q0 (dO.out.below hb3 dO.out.lt);have HDR:=Q0 (HDR.out.below hb3);have BQ:=Q0 (ownsRow_below BQ.out hb3);have dN:=Q0 (dN.out.below hb3 dN.out.lt);have SL:=Q0 (bT SL.out hb3);have a1A:w2.heap.size<=w3.heap.size:=hb3.size;have kN:Hid (∀ k,((Value.slice va xs.length vc).ownBlock=some k\/∃ x∈xs,x.lv.ownBlock=some k)->k<w2.heap.size):=a1y;have uW:Hid (∀ k,(Value.slice (some ⟨nb,no,none⟩) C.length cc).ownBlock=some k->k<w2.heap.size):=a1z;clear hc3 hb3 gN2 CZ AO;cases mb
 · have HDW:=Q0 hF.out
   clear hT hF;have hal:Below w3.heap.size w3 (w3.alloc (.cells #[.string n,.bool false,.string ⟨#[]⟩,.string ⟨#[]⟩,.string ⟨#[]⟩,.slice none 0 0,.int .i64 rc,.string rt] 38)):=bA;have oP:=Q0 (HDR.out.below hal);have G4:Hid (Cl (w3.alloc (.cells #[.string n,.bool false,.string ⟨#[]⟩,.string ⟨#[]⟩,.string ⟨#[]⟩,.slice none 0 0,.int .i64 rc,.string rt] 38)) w3.heap.size 38 [.string n,.bool false,.string ⟨#[]⟩,.string ⟨#[]⟩,.string ⟨#[]⟩,.slice none 0 0,.int .i64 rc,.string rt]):=Q0 (F3 w3 _ 38);have vW:Hid (World.ownsRow (w3.alloc (.cells #[.string n,.bool false,.string ⟨#[]⟩,.string ⟨#[]⟩,.string ⟨#[]⟩,.slice none 0 0,.int .i64 rc,.string rt] 38)) w.heap.size 45 4 (.slice none 0 0) (⟨⟨n,false,X6,[],⟨rc,rt⟩,⟨#[]⟩⟩,.slice none 0 0⟩:De).d.ls.length (I4 (⟨⟨n,false,X6,[],⟨rc,rt⟩,⟨#[]⟩⟩,.slice none 0 0⟩:De).d.ls)):=Q0 (World.ownsRow_nil _ _ _ _);have hbs:w.heap.size<=(w3.alloc (.cells #[.string n,.bool false,.string ⟨#[]⟩,.string ⟨#[]⟩,.string ⟨#[]⟩,.slice none 0 0,.int .i64 rc,.string rt] 38)).heap.size:=by have:=SL.out.size;simp;omega
   go_wp2_with (first | (refine Ve rfl (Vd 38 _ rfl (B:=BO) (j:=0) (cs:=[.string n,.bool false,.string ⟨#[]⟩,.string ⟨#[]⟩,.string ⟨#[]⟩,.slice none 0 0,.int .i64 rc,.string rt]) rfl (fun q v e=>by rw [Nat.zero_add];exact (eU.out.cell q).trans e) underlying38 rfl I1) ?_) | (refine Kc rfl _ _ 28 rfl w.heap.size 38 8 underlying28 JB J3 (.slice va xs.length vc) xs.length (Co xs) rfl oP.out.row _ 1 [.string n,.bool false,.string ⟨#[]⟩,.string ⟨#[]⟩,.string ⟨#[]⟩,.slice none 0 0,.int .i64 rc,.string rt] rfl (.inr ⟨⟨w3.heap.size,0,none⟩,1,rfl,rfl,r_ G4.out⟩) (by intro v hv;simp at hv;rcases hv with rfl | rfl | rfl | rfl | rfl | rfl <;> rfl) O0 hbs ?_;intro v' w9 O9 g9 at9;have xP:=Q0 O9;have SN:=Q0 g9;clear O9 g9 at9))
   have zQ:Hid (V_ w.heap.size v' (xs++[⟨⟨n,false,X6,[],⟨rc,rt⟩,⟨#[]⟩⟩,.slice none 0 0⟩]) w9):=Q0 (oP.out.snoc (x:=⟨⟨n,false,X6,[],⟨rc,rt⟩,⟨#[]⟩⟩,.slice none 0 0⟩) vW.out (fun y _ k _ e=>by cases e) xP.out SN.out);have PR:=Q0 (Ol (ownsRow_below BQ.out hal) oP.out.row J3 SN.out);have HCN:Hid (Cl w9 w.heap.size 25 [.slice a fs.length cap]):=Q0 ((dN.out.below hal dN.out.lt).gb SN.out (fun e=>by
    obtain ⟨_,cur,OL⟩:=J2 oP.out.row e.symm;exact j6 OL (dN.out.below hal dN.out.lt) J3 rfl))
   have lN:Hid (Below w.heap.size w w9):=Q0 (C_ (bT SL.out hal) SN.out hbs (fun k e=>(oP.out.row.lt k e).1));obtain ⟨vf,vg,hvf⟩:=X9 zQ.out.row;subst hvf;have HMN:Hid ((xs++[(⟨⟨n,false,X6,[],⟨rc,rt⟩,⟨#[]⟩⟩,.slice none 0 0⟩:De)]).map (·.d)=(C.take (i+1)).map (dW fs ms ws)):=by show _=_;rw [List.map_append,HMP.out,sW.out,List.map_append];congr 1;simp only [List.map_cons,List.map_nil];rw [HDW.out (by rfl)]
   clear xP SN oP G4 hal vW;go_wp2;go_roundw
   case rel=>exact ⟨i+1,xs++[(⟨⟨n,false,X6,[],⟨rc,rt⟩,⟨#[]⟩⟩,.slice none 0 0⟩:De)],vf,vg,O0,U0,by go_num,zQ.out,HMN.out,PR.out,HCN.out,lN.out⟩
   case measure=>simp [intOf];omega
 have HDW:=Q0 hT.out;clear hT hF
 go_upto_region 10 with (first | (refine Ve rfl (Vd 35 _ rfl (B:=w1.heap.size) (j:=0) (cs:=[.string xn,.string xt,.string xa]) rfl (fun q v e=>by
  have hq:q<3:=(List.getElem?_eq_some_iff.1 e).1;rw [Nat.zero_add,dO.out.cell q,show ([.string xn,.string xt,.string xa,.slice la ls.length lc,.bool xo,.int .i64 xc,.string xx,.string xw]:List Value)=[.string xn,.string xt,.string xa]++[.slice la ls.length lc,.bool xo,.int .i64 xc,.string xx,.string xw] from rfl,List.getElem?_append_left hq];exact e) underlying35 rfl (by kernel_rfl)) ?_) | (refine Ye rfl 35 _ _ rfl (B:=BO) (j:=2) rfl (vs:=[.string xn,.string xt,.string xa]) rfl eU.out U0 (by intro v hv;simp at hv;rcases hv with rfl | rfl | rfl <;> rfl) I1 ?_;intro w4 hc4 GM))
 have QR:Hid (Cl w4 BO 38 [.string n,.bool true,.string xn,.string xt,.string xa,.slice none 0 0,.int .i64 rc,.string rt]):=Q0 hc4;have wW:=Q0 (dO.out.on GM O0);have DZ:Hid (V_ w.heap.size (.slice va xs.length vc) xs w4):=Q0 (HDR.out.keep (fun k e=>GM.block k (fun c=>by have:=kN.out k (.inl e);omega)) (fun x hx k e=>GM.block k (fun c=>by have:=kN.out k (.inr ⟨x,hx,e⟩);omega)));have EZ:=Q0 (Y0 BQ.out fun k e=>GM.block k (fun c=>by have:=uW.out k e;omega));have nO:=Q0 (dN.out.on GM O0);have CQ:=Q0 (SL.out.trans (GM.below O0));have zN:w2.heap.size<=w4.heap.size:=by rw [GM.size];exact a1A
 clear hc4 GM;have d3:w4.cell? ⟨w1.heap.size,3,none⟩=some (.slice la ls.length lc):=wW.out.cell 3;have hal:Below w4.heap.size w4 (w4.alloc (.cells #[] 45)):=bA;have d3':=(hal.cell (p:=⟨w1.heap.size,3,none⟩) wW.out.lt).trans d3;have ZU:=Q0 ((HLZ.out.1.below CQ.out).src hal);have HRM:Hid ((w4.alloc (.cells #[] 45)).ownsRow w.heap.size 45 4 (.slice (some ⟨w4.heap.size,0,none⟩) 0 0) 0 []):=Q0 (V4 (World.ownsRow_made w4 #[] 0 Q8 (Nat.zero_le _) rfl) CQ.out.size);have CO:=Q0 (Ec ls);have hbs:w.heap.size<=(w4.alloc (.cells #[] 45)).heap.size:=by have:=CQ.out.size;simp;omega
 have FZ:=Q0 (QR.out.below hal QR.out.lt)
 go_upto_region 11 with (refine Kc rfl _ _ 36 rfl w.heap.size 45 4 underlying36 Oh J3 (.slice (some ⟨w4.heap.size,0,none⟩) 0 0) 0 [] rfl HRM.out _ ls.length (I4 ls) rfl ZU.out CO.out O0 hbs ?_;intro v5 w5 O5 g5 GZ;obtain ⟨a5,c9,hv5⟩:=X9 O5;rw [Nat.zero_add,List.nil_append] at O5;rw [Nat.zero_add] at hv5;subst hv5;have iU:=Q0 (FZ.out.gb g5 (fun e=>by have:BO=w4.heap.size:=Option.some.inj e;have:=QR.out.lt;omega));have q5:w5.cell? ⟨BO,5,none⟩=some (.slice none 0 0):=iU.out.cell 5;have f5:=iU.out.opn 5)
 have V5:Hid (∀ k,(Value.slice a5 ls.length c9).ownBlock=some k->w4.heap.size<=k):=fun k e=>by
  rcases GZ with h | h
  · rw [h] at e;have:w4.heap.size=k:=Option.some.inj e;omega
  rw [h] at e;have:=Option.some.inj e;simp at this;omega
 have hon:=F8 w5 BO 5 (.slice a5 ls.length c9);have a1B:Hid (Cl (w5.setCell ⟨BO,5,none⟩ (.slice a5 ls.length c9)) BO 38 [.string n,.bool true,.string xn,.string xt,.string xa,.slice a5 ls.length c9,.int .i64 rc,.string rt]):=Q0 (iU.out.set 5 (.slice a5 ls.length c9));have hB4:BO<w4.heap.size:=QR.out.lt;have hgk:∀ k,k<w4.heap.size->k≠BO->(w5.setCell ⟨BO,5,none⟩ (.slice a5 ls.length c9)).heap[k]?=w4.heap[k]?:=fun k hk hne=>(hon.block k hne).trans ((g5.block k X3 (fun e=>by have:k=w4.heap.size:=Option.some.inj e;omega)).trans (hal.block k hk));have IZ:=Q0 hgk;have R6:Hid ((w5.setCell ⟨BO,5,none⟩ (.slice a5 ls.length c9)).ownsRow w.heap.size 45 4 (.slice a5 ls.length c9) ls.length (I4 ls)):=Q0 (Y0 O5 fun k e=>hon.block k (by have:=V5.out k e;omega));have JZ:Hid (Below w.heap.size w (w5.setCell ⟨BO,5,none⟩ (.slice a5 ls.length c9))):=Q0 ((C_ (v:=.slice (some ⟨w4.heap.size,0,none⟩) 0 0) (bT CQ.out hal) g5 hbs (fun k e=>by have:w4.heap.size=k:=Option.some.inj e;have:=CQ.out.size;omega)).trans (hon.below O0));generalize (w5.setCell ⟨BO,5,none⟩ (.slice a5 ls.length c9))=w6 at*;have HDR:Hid (V_ w.heap.size (.slice va xs.length vc) xs w6):=Q0 (DZ.out.keep (fun k e=>IZ.out k (by have:=kN.out k (.inl e);omega) (by have:=kN.out k (.inl e);omega)) (fun x hx k e=>IZ.out k (by have:=kN.out k (.inr ⟨x,hx,e⟩);omega) (by have:=kN.out k (.inr ⟨x,hx,e⟩);omega)));have BQ:=Q0 (Y0 EZ.out fun k e=>IZ.out k (by have:=uW.out k e;omega) (by have:=uW.out k e;omega));have dN:Hid (Cl w6 w.heap.size 25 [.slice a fs.length cap]):=Q0 ((IZ.out _ nO.out.lt O0).trans nO.out);have SL:=JZ;have xW:Hid (∀ y∈xs,∀ k,y.lv.ownBlock=some k->(Value.slice a5 ls.length c9).ownBlock≠some k):=fun y hy k e c=>by have:=V5.out k c;have:=kN.out k (.inr ⟨y,hy,e⟩);omega
 clear hal hon hgk O5 g5 GZ q5 f5 d3 d3' ZU HRM CO hbs QR FZ iU wW DZ EZ nO CQ JZ IZ;have hal:Below w6.heap.size w6 (w6.alloc (.cells #[.string n,.bool true,.string xn,.string xt,.string xa,.slice a5 ls.length c9,.int .i64 rc,.string rt] 38)):=bA;have oP:=Q0 (HDR.out.below hal);have G4:Hid (Cl (w6.alloc (.cells #[.string n,.bool true,.string xn,.string xt,.string xa,.slice a5 ls.length c9,.int .i64 rc,.string rt] 38)) w6.heap.size 38 [.string n,.bool true,.string xn,.string xt,.string xa,.slice a5 ls.length c9,.int .i64 rc,.string rt]):=Q0 (F3 w6 _ 38);have vW:Hid (World.ownsRow (w6.alloc (.cells #[.string n,.bool true,.string xn,.string xt,.string xa,.slice a5 ls.length c9,.int .i64 rc,.string rt] 38)) w.heap.size 45 4 (.slice a5 ls.length c9) (⟨⟨n,true,⟨xn,xt,xa⟩,ls,⟨rc,rt⟩,xw⟩,.slice a5 ls.length c9⟩:De).d.ls.length (I4 (⟨⟨n,true,⟨xn,xt,xa⟩,ls,⟨rc,rt⟩,xw⟩,.slice a5 ls.length c9⟩:De).d.ls)):=Q0 (ownsRow_below R6.out hal);have hbs:w.heap.size<=(w6.alloc (.cells #[.string n,.bool true,.string xn,.string xt,.string xa,.slice a5 ls.length c9,.int .i64 rc,.string rt] 38)).heap.size:=by have:=SL.out.size;simp;omega
 go_wp2_with (first | (refine Ve rfl (Vd 38 _ rfl (B:=BO) (j:=0) (cs:=[.string n,.bool true,.string xn,.string xt,.string xa,.slice a5 ls.length c9,.int .i64 rc,.string rt]) rfl (fun q v e=>by rw [Nat.zero_add];exact (a1B.out.cell q).trans e) underlying38 rfl I1) ?_) | (refine Kc rfl _ _ 28 rfl w.heap.size 38 8 underlying28 JB J3 (.slice va xs.length vc) xs.length (Co xs) rfl oP.out.row _ 1 [.string n,.bool true,.string xn,.string xt,.string xa,.slice a5 ls.length c9,.int .i64 rc,.string rt] rfl (.inr ⟨⟨w6.heap.size,0,none⟩,1,rfl,rfl,r_ G4.out⟩) (by intro v hv;simp at hv;rcases hv with rfl | rfl | rfl | rfl | rfl | rfl | rfl | rfl <;> rfl) O0 hbs ?_;intro v' w9 O9 g9 at9;have xP:=Q0 O9;have SN:=Q0 g9;clear O9 g9 at9))
 have zQ:Hid (V_ w.heap.size v' (xs++[⟨⟨n,true,⟨xn,xt,xa⟩,ls,⟨rc,rt⟩,xw⟩,.slice a5 ls.length c9⟩]) w9):=Q0 (oP.out.snoc (x:=⟨⟨n,true,⟨xn,xt,xa⟩,ls,⟨rc,rt⟩,xw⟩,.slice a5 ls.length c9⟩) vW.out xW.out xP.out SN.out);have PR:=Q0 (Ol (ownsRow_below BQ.out hal) oP.out.row J3 SN.out);have HCN:Hid (Cl w9 w.heap.size 25 [.slice a fs.length cap]):=Q0 ((dN.out.below hal dN.out.lt).gb SN.out (fun e=>by
  obtain ⟨_,cur,OL⟩:=J2 oP.out.row e.symm;exact j6 OL (dN.out.below hal dN.out.lt) J3 rfl))
 have lN:Hid (Below w.heap.size w w9):=Q0 (C_ (bT SL.out hal) SN.out hbs (fun k e=>(oP.out.row.lt k e).1));obtain ⟨vf,vg,hvf⟩:=X9 zQ.out.row;subst hvf;have HMN:Hid ((xs++[(⟨⟨n,true,⟨xn,xt,xa⟩,ls,⟨rc,rt⟩,xw⟩,.slice a5 ls.length c9⟩:De)]).map (·.d)=(C.take (i+1)).map (dW fs ms ws)):=by show _=_;rw [List.map_append,HMP.out,sW.out,List.map_append];congr 1;simp only [List.map_cons,List.map_nil];rw [HDW.out (by rfl)]
 clear xP SN oP G4 hal vW;go_wp2;go_roundw
 case rel=>exact ⟨i+1,xs++[(⟨⟨n,true,⟨xn,xt,xa⟩,ls,⟨rc,rt⟩,xw⟩,.slice a5 ls.length c9⟩:De)],vf,vg,O0,U0,by go_num,zQ.out,HMN.out,PR.out,HCN.out,lN.out⟩
 case measure=>simp [intOf];omega
theorem kL (a:Option Addr) (cap:Nat) (fs:List F2) (ms:List M3) (nm:ByteArray) (w:World) (hat:U3 w a fs) (ht:Y3 fs) (hp:Q6 fs ms) (hn:Y1 nm.data.toList=true):
 Calls prog 9 #[.agg #[.slice a fs.length cap],.string nm] w fun e w'=>(∃ v,e=.returned v/\∃ xs,V_ w.heap.size v xs w'/\gm (o7 fs ms) nm (xs.map (·.d)))/\Below w.heap.size w w':=by
 have HAT:=Q0 hat;have HT:=Q0 ht;have HP:=Q0 hp;have hfl:fs.length<=1048576:=by have:=ht.1;omega
 have HF:=Q0 (Bh ht);have hns:=z_ hn;have hB0:∀ o1,Below w.heap.size w (w.alloc o1):=fun o1=>bA;clear hat ht hp;go_enter func9,ntmps9
 go_wp2_with fail
 refine (G.T.c21 a cap fs _ hfl HF.out (G.T.X0 HAT.out (hB0 _))).mono ?_;rintro e w1 ⟨⟨b,rfl,hb⟩,hb1⟩;obtain rfl:b=true:=hb.2 HT.out;have hB1:=(hB0 _).trans (hb1.mono U0);have t1:w1.cell? ⟨w.heap.size,0,none⟩=some (.slice a fs.length cap):=(hb1.cell (p:=⟨w.heap.size,0,none⟩) U0).trans (by simp [go_sem]);have hz1:w.heap.size<w1.heap.size:=by have:=hb1.size;simp at this;omega
 clear hb hb1 hB0
 go_wp2_with fail
 refine (Um nm w1 O0).mono ?_;rintro e w2 ⟨he,rfl⟩;have e':e=.returned (.bool true):=by rw [he];exact congrArg (fun b=>Ending.returned (.bool b)) hn
 subst e';clear he
 go_upto_region 3 with fail
 obtain ⟨x0,hx0⟩:∃ x:World,x=w2.drew:=⟨_,rfl⟩;have hBx:Below w.heap.size w x0:=by rw [hx0];exact hB1.drew
 refine wp_region_held_drew (S:=fun u=>u.cell? ⟨w.heap.size,0,none⟩=some (.slice a fs.length cap)) I1 ?_ fun hH=>?_
 · exact t1
 rw [<- hx0] at hH ⊢;have hq0:w.heap.size<x0.heap.size:=by rw [hx0];exact hz1
 have q0:x0.cell? ⟨w.heap.size,0,none⟩=some (.slice a fs.length cap):=hH;clear hx0;refine tq 0 hH ?_;refine tq 1 hH ?_;refine tq 3 hH ?_
 try simp only [qq]
 refine rq 2 fun K hK=>?_;go_simp;refine (c24 (o7 fs ms) a cap fs ms rfl x0 (G.T.X0 HAT.out hBx) HT.out HP.out).mono ?_;rintro e x1 ⟨v,ws,rfl,hA,hM,hB⟩;have hl1:ws.length=ms.length:=by have:=congrArg List.length hM;simpa using this
 obtain ⟨wa,wc,hv,hws⟩:=il hA.row;subst hv;have wM:=Q0 (qc HT.out HP.out);have JM:Hid (ws.length<=300):=by have:=Ba HP.out;show _<=_;omega
 have KZ:=Q0 (qG HT.out HP.out hA.ok hM hB);have HDO:=Q0 (Am HT.out HP.out hA.ok hM hB);have OO:Below x0.heap.size x0 x1:=hA.bl;have hBW:=bT hBx OO;have h16:=XK (o7 fs ms) a cap fs ms rfl wa wc ws nm x1 (G.T.X0 HAT.out hBW) HT.out HP.out JM.out hws (fun i hi=>⟨hA.lv i hi,(M_ wM.out (wM.out.ms _ (hA.ok i hi).mem) (hA.ok i hi).his).1⟩) KZ.out HDO.out;clear hA hM hB hl1 hws;go_simp;clear hH;refine hK.out _ _ ?_ fun hH=>?_
 · exact (OO.cell (p:=⟨w.heap.size,0,none⟩) hq0).trans q0
 clear hK K
 try simp only [qq]
 refine rq 4 fun K hK=>?_;go_simp;refine h16.mono ?_;rintro e x2 ⟨⟨v,rfl,xs,hdr,hds⟩,hb2⟩;obtain ⟨va,vc,hv⟩:=X9 hdr.row;subst hv;have HDR:=Q0 hdr;have BZ:=Q0 hds;have xQ:=Q0 (bT hBW hb2);have hle:w.heap.size<=x1.heap.size:=hBW.size;have q2:=(hb2.cell (p:=⟨w.heap.size,0,none⟩) (Nat.lt_of_lt_of_le hq0 OO.size)).trans ((OO.cell (p:=⟨w.heap.size,0,none⟩) hq0).trans q0);clear h16 hdr hds hb2;go_simp;clear hH;refine hK.out _ _ ?_ fun hH=>?_
 · exact q2
 clear hK K;refine tq 5 hH ?_
 try simp only [qq]
 refine wpAnyH_done I1 ?_ _;clear hH;go_wp2;go_ret;exact ⟨⟨_,rfl,xs,⟨V4 HDR.out.row hle,fun x hx=>V4 (HDR.out.lk x hx) hle,HDR.out.ne⟩,BZ.out⟩,xQ.out⟩
theorem iL (a:Option Addr) (cap:Nat) (fs:List F2) (nm:ByteArray) (w:World) (hl:fs.length<=1048576) (hs:∀ i,(fs.getD i L6).le 1048576) (hat:U3 w a fs) (hns:nm.size<=1048576) (hno:¬ Y3 fs\/Y1 nm.data.toList=false):
 Calls prog 9 #[.agg #[.slice a fs.length cap],.string nm] w fun e w'=>(∃ v,e=.returned v/\V_ w.heap.size v [] w')/\Below w.heap.size w w':=by
 have HAT:=Q0 hat;have HF:=Q0 hs;have HN:=Q0 hno;have hB0:∀ o1,Below w.heap.size w (w.alloc o1):=fun o1=>bA;clear hat hs hno;go_enter func9,ntmps9
 go_wp2_with fail
 refine (G.T.c21 a cap fs _ hl HF.out (G.T.X0 HAT.out (hB0 _))).mono ?_;rintro e w1 ⟨⟨b,rfl,hb⟩,hb1⟩;have hB1:=(hB0 _).trans (hb1.mono U0);have HE:Hid (V_ w.heap.size (.slice (some ⟨w1.heap.size,0,none⟩) 0 0) [] (w1.alloc (.cells #[] 38))/\Below w.heap.size w (w1.alloc (.cells #[] 38))):=⟨⟨V4 (World.ownsRow_made w1 #[] 0 Q8 (Nat.zero_le _) rfl) hB1.size,(fun x h=>by cases h),List.Pairwise.nil⟩,hB1.alloc hB1.size _⟩;have yP:=Q0 hb;clear hb hb1 hB0;cases b
 · go_wp2
   go_ret;exact ⟨⟨_,rfl,HE.out.1⟩,HE.out.2⟩
 have hn:Y1 nm.data.toList=false:=by
  rcases HN.out with h | h
  · exact absurd (yP.out.1 rfl) h
  exact h
 go_wp2_with fail
 refine (Um nm w1 O0).mono ?_;rintro e w2 ⟨he,rfl⟩;have e':e=.returned (.bool false):=by rw [he];exact congrArg (fun b=>Ending.returned (.bool b)) hn
 subst e';clear he;go_wp2;go_ret;exact ⟨⟨_,rfl,HE.out.1⟩,HE.out.2⟩
end Go.Proofs.YtdpoaadafcaffaaGreatDoor
