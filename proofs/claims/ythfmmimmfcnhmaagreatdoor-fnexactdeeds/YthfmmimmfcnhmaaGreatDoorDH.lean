import Derived.Test.YthfmmimmfcnhmaaGreatDoorDF
set_option linter.unusedVariables false
set_option maxHeartbeats 8000000
set_option maxRecDepth 100000
namespace Go.Proofs.YthfmmimmfcnhmaaGreatDoor
open Proofs.Tryz
open Go.RowKit
open G (plF IsPT)
open G.T (F2 f2z treeOk FilesAt lt)
theorem r16 (B3 nb no m cc i:Nat) (a:Option Addr) (cap fl:Nat) (wa:Option Addr) (wc:Nat) (ws:List W8) (n:ByteArray) (mb:Bool) (rc:Int) (rt:ByteArray) (w:World) (u0 u2 u4 u5 u6 u7 u10 u12 u13 u14 u15 u16 u17 u18 u19 u20 u21 u22 u23 u24 u25 u26 u27 u28 u29 u30 u31 u32 u33 u34 u35 u36 u37 u38 u39 u40 u41 u42 u43 u44 u45 u46 u47 u48 u49 u50 u51 u52 u53 u54 u55 u56 u57 u58:Value) {Q:Exit->Act->World->Prop} (hQ:∀ c (a:Act) (d:Option Tmp) (v:Value) w,Q (.panic c) (a.put d v) w->Q (.panic c) a w) (c3:w.cell? ⟨B3,0,none⟩=some (.slice a fl cap)) (hB3:B3<w.heap.size) (cn:w.cell? ⟨nb,no+i,none⟩=some (.string n)) (hnb:nb<w.heap.size) (hi:i<m) (hm:m<=1000) (h35:Hid (∀ u,Below w.heap.size w u->Calls prog 35 #[.agg #[.slice a fl cap],.slice wa ws.length wc,.string n] u fun e w'=>e=.returned (.agg #[.int .i64 rc,.string rt])/\Below u.heap.size u w'))
 (hKK:∀ (t32 t33 t34 t35 t36 t37 t38 t39 t40 t41 t42 t43 t44:Value) (B12:Nat) (w':World),w.heap.size<=B12->Cl w' B12 55 [.string n,.bool mb,.string ⟨#[]⟩,.string ⟨#[]⟩,.string ⟨#[]⟩,.slice none 0 0,.int .i64 rc,.string rt]->Below w.heap.size w w'->Q .normal { tmps:=#[u0,.slice wa ws.length wc,u2,.pointer (some ⟨B3,0,none⟩),u4,u5,u6,u7,.slice (some ⟨nb,no,none⟩) m cc,.int .i64 (i:Int),u10,.bool mb,.pointer (some ⟨B12,0,none⟩),u13,u14,u15,u16,u17,u18,u19,u20,u21,u22,u23,u24,u25,u26,u27,u28,u29,u30,u31,t32,t33,t34,t35,t36,t37,t38,t39,t40,t41,t42,t43,t44,u45,u46,u47,u48,u49,u50,u51,u52,u53,u54,u55,u56,u57,u58],defers:=[] } w'):
 (Code.region 7 #[⟨some 32,.move (.tmp 8),66, "l4_want.go:194",#[],none⟩,⟨some 33,.move (.tmp 9),3, "l4_want.go:194",#[],none⟩,⟨some 34,.indexAddr 66 (.tmp 32) (.tmp 33),0, "l4_want.go:194",#[⟨0,.data⟩,⟨1,.data⟩],none⟩,⟨some 35,.load 9 (.tmp 34),9, "l4_want.go:194",#[⟨2,.data⟩],none⟩,⟨some 36,.move (.tmp 11),4, "l4_want.go:194",#[],none⟩,⟨some 37,.load 30 (.tmp 3),30, "l4_want.go:194",#[],none⟩,⟨some 38,.move (.tmp 1),41, "l4_want.go:194",#[],none⟩,⟨some 39,.move (.tmp 8),66, "l4_want.go:194",#[],none⟩,⟨some 40,.move (.tmp 9),3, "l4_want.go:194",#[],none⟩,⟨some 41,.indexAddr 66 (.tmp 39) (.tmp 40),0, "l4_want.go:194",#[⟨7,.data⟩,⟨8,.data⟩],none⟩,⟨some 42,.load 9 (.tmp 41),9, "l4_want.go:194",#[⟨9,.data⟩],none⟩,⟨some 43,.call ⟨.value (.func 35),#[.tmp 37,.tmp 38,.tmp 42],#[30,41,9]⟩,53, "l4_want.go:194",#[⟨5,.data⟩,⟨6,.data⟩,⟨10,.data⟩],none⟩,⟨some 44,.build 55 #[(0,.tmp 35),(1,.tmp 36),(4,.tmp 43)],55, "l4_want.go:194",#[⟨3,.data⟩,⟨4,.data⟩,⟨11,.data⟩],none⟩,⟨some 12,.alloc 55,0, "l4_want.go:194",#[],none⟩,⟨none,.store 55 (.tmp 12) (.tmp 44),0, "l4_want.go:194",#[⟨13,.data⟩,⟨12,.data⟩,⟨11,.chain⟩,⟨0,.phase⟩,⟨1,.phase⟩,⟨2,.phase⟩,⟨3,.phase⟩,⟨4,.phase⟩,⟨5,.phase⟩,⟨6,.phase⟩,⟨7,.phase⟩,⟨8,.phase⟩,⟨9,.phase⟩,⟨10,.phase⟩,⟨11,.phase⟩,⟨12,.phase⟩,⟨13,.phase⟩],none⟩] true).wp prog Q { tmps:=#[u0,.slice wa ws.length wc,u2,.pointer (some ⟨B3,0,none⟩),u4,u5,u6,u7,.slice (some ⟨nb,no,none⟩) m cc,.int .i64 (i:Int),u10,.bool mb,u12,u13,u14,u15,u16,u17,u18,u19,u20,u21,u22,u23,u24,u25,u26,u27,u28,u29,u30,u31,u32,u33,u34,u35,u36,u37,u38,u39,u40,u41,u42,u43,u44,u45,u46,u47,u48,u49,u50,u51,u52,u53,u54,u55,u56,u57,u58],defers:=[] } w:=by
 refine wp_region_held_drew (S:=fun u=>u.cell? ⟨nb,no+i,none⟩=some (.string n)/\u.cell? ⟨B3,0,none⟩=some (.slice a fl cap)) (by kernel_rfl) ⟨cn,c3⟩ (fun hH=>?_)
 obtain ⟨x0,hx0⟩:∃ x:World,x=w.drew:=⟨_,rfl⟩
 rw [<- hx0] at hH ⊢
 have Lx0:Below w.heap.size w x0:=by rw [hx0];exact (Below.refl _ w).drew
 clear hx0
 refine tq 0 hH ?_
 refine tq 1 hH ?_
 refine tq 2 hH ?_
 refine tq 3 hH ?_ (v:=?_) (hv:=?e)
 case e=>intro wq hSw;(try dsimp only at hSw);obtain ⟨s1,s2⟩:=hSw;go_simp;try with_reducible rfl
 refine tq 4 hH ?_
 refine tq 5 hH ?_ (v:=?_) (hv:=?e)
 case e=>intro wq hSw;(try dsimp only at hSw);obtain ⟨s1,s2⟩:=hSw;go_simp;try with_reducible rfl
 refine tq 6 hH ?_
 refine tq 7 hH ?_
 refine tq 8 hH ?_
 refine tq 9 hH ?_
 refine tq 10 hH ?_ (v:=?_) (hv:=?e)
 case e=>intro wq hSw;(try dsimp only at hSw);obtain ⟨s1,s2⟩:=hSw;go_simp;try with_reducible rfl
 try simp only [qq]
 refine wpAnyH_ready (rs:=[11,13]) (by kernel_rfl) (by simp) (AllReadyH.cons (o:=⟨some 43,.call ⟨.value (.func 35),#[.tmp 37,.tmp 38,.tmp 42],#[30,41,9]⟩,53,_,_,none⟩) rfl (fun K hK=>?_) (AllReadyH.cons (o:=⟨some 12,.alloc 55,0,_,_,none⟩) rfl (fun K hK=>?_) AllReadyH.nil))
 · go_simp
   refine (h35.out x0 Lx0).mono ?_
   rintro e x1 ⟨rfl,hbx1⟩
   have Lx1:Below w.heap.size w x1:=Lx0.trans (hbx1.mono Lx0.size)
   clear hbx1
   go_simp
   clear hH
   refine hK.out _ _ ?_ (fun hH=>?_)
   · exact ⟨(Lx1.cell (p:=⟨nb,no+i,none⟩) hnb).trans cn,(Lx1.cell (p:=⟨B3,0,none⟩) hB3).trans c3⟩
   clear hK K
   refine tq 12 hH ?_
   try simp only [qq]
   refine rq 13 (fun K hK=>?_)
   go_simp
   obtain ⟨x2,hx2⟩:∃ x:World,x=x1.alloc (.cells #[.string ⟨#[]⟩,.bool false,.string ⟨#[]⟩,.string ⟨#[]⟩,.string ⟨#[]⟩,.slice none 0 0,.int .i64 0,.string ⟨#[]⟩] 55):=⟨_,rfl⟩
   rw [<- hx2]
   have Bx2:Below x1.heap.size x1 x2:=by rw [hx2];exact (Below.refl _ _).alloc (Nat.le_refl _) _
   have C12:Hid (Cl x2 x1.heap.size 55 [.string ⟨#[]⟩,.bool false,.string ⟨#[]⟩,.string ⟨#[]⟩,.string ⟨#[]⟩,.slice none 0 0,.int .i64 0,.string ⟨#[]⟩]):=by show Cl _ _ _ _;rw [hx2];exact cl_new x1 _ 55
   have Lx2:Below w.heap.size w x2:=Lx1.trans (Bx2.mono Lx1.size)
   have z12:w.heap.size<=x1.heap.size:=Lx1.size
   clear hx2
   clear hH
   refine hK.out _ _ ?_ (fun hH=>?_)
   · exact ⟨(Lx2.cell (p:=⟨nb,no+i,none⟩) hnb).trans cn,(Lx2.cell (p:=⟨B3,0,none⟩) hB3).trans c3⟩
   clear hK K
   try simp only [qq]
   refine rq 14 (fun K hK=>?_)
   refine st_stN rfl 55 _ _ rfl (B:=x1.heap.size) (j:=0) rfl (vs:=[.string n,.bool mb,.string ⟨#[]⟩,.string ⟨#[]⟩,.string ⟨#[]⟩,.slice none 0 0,.int .i64 rc,.string rt]) rfl C12.out (by simp) (by intro v hv;simp at hv;rcases hv with rfl | rfl | rfl | rfl | rfl | rfl <;> rfl) (by kernel_rfl) ?_
   intro x3 hc ho
   have Lx3:Below w.heap.size w x3:=Lx2.trans (ho.below z12)
   have CY:Hid (Cl x3 x1.heap.size 55 [.string n,.bool mb,.string ⟨#[]⟩,.string ⟨#[]⟩,.string ⟨#[]⟩,.slice none 0 0,.int .i64 rc,.string rt]):=hidI hc
   clear hc ho
   clear hH
   refine hK.out _ _ ?_ (fun hH=>?_)
   · exact ⟨(Lx3.cell (p:=⟨nb,no+i,none⟩) hnb).trans cn,(Lx3.cell (p:=⟨B3,0,none⟩) hB3).trans c3⟩
   clear hK K
   try simp only [qq]
   refine wpAnyH_done (by kernel_rfl) ?_ _
   exact hKK _ _ _ _ _ _ _ _ _ _ _ _ _ _ _ z12 CY.out Lx3
 go_simp
 obtain ⟨x1,hx1⟩:∃ x:World,x=x0.alloc (.cells #[.string ⟨#[]⟩,.bool false,.string ⟨#[]⟩,.string ⟨#[]⟩,.string ⟨#[]⟩,.slice none 0 0,.int .i64 0,.string ⟨#[]⟩] 55):=⟨_,rfl⟩
 rw [<- hx1]
 have Bx1:Below x0.heap.size x0 x1:=by rw [hx1];exact (Below.refl _ _).alloc (Nat.le_refl _) _
 have C12:Hid (Cl x1 x0.heap.size 55 [.string ⟨#[]⟩,.bool false,.string ⟨#[]⟩,.string ⟨#[]⟩,.string ⟨#[]⟩,.slice none 0 0,.int .i64 0,.string ⟨#[]⟩]):=by show Cl _ _ _ _;rw [hx1];exact cl_new x0 _ 55
 have Lx1:Below w.heap.size w x1:=Lx0.trans (Bx1.mono Lx0.size)
 have z12:w.heap.size<=x0.heap.size:=Lx0.size
 clear hx1
 clear hH
 refine hK.out _ _ ?_ (fun hH=>?_)
 · exact ⟨(Lx1.cell (p:=⟨nb,no+i,none⟩) hnb).trans cn,(Lx1.cell (p:=⟨B3,0,none⟩) hB3).trans c3⟩
 clear hK K
 try simp only [qq]
 refine rq 11 (fun K hK=>?_)
 go_simp
 refine (h35.out x1 Lx1).mono ?_
 rintro e x2 ⟨rfl,hbx2⟩
 have Lx2:Below w.heap.size w x2:=Lx1.trans (hbx2.mono Lx1.size)
 have C12:=hidI (C12.out.below hbx2 C12.out.lt)
 clear hbx2
 go_simp
 clear hH
 refine hK.out _ _ ?_ (fun hH=>?_)
 · exact ⟨(Lx2.cell (p:=⟨nb,no+i,none⟩) hnb).trans cn,(Lx2.cell (p:=⟨B3,0,none⟩) hB3).trans c3⟩
 clear hK K
 refine tq 12 hH ?_
 try simp only [qq]
 refine rq 14 (fun K hK=>?_)
 refine st_stN rfl 55 _ _ rfl (B:=x0.heap.size) (j:=0) rfl (vs:=[.string n,.bool mb,.string ⟨#[]⟩,.string ⟨#[]⟩,.string ⟨#[]⟩,.slice none 0 0,.int .i64 rc,.string rt]) rfl C12.out (by simp) (by intro v hv;simp at hv;rcases hv with rfl | rfl | rfl | rfl | rfl | rfl <;> rfl) (by kernel_rfl) ?_
 intro x3 hc ho
 have Lx3:Below w.heap.size w x3:=Lx2.trans (ho.below z12)
 have CY:Hid (Cl x3 x0.heap.size 55 [.string n,.bool mb,.string ⟨#[]⟩,.string ⟨#[]⟩,.string ⟨#[]⟩,.slice none 0 0,.int .i64 rc,.string rt]):=hidI hc
 clear hc ho
 clear hH
 refine hK.out _ _ ?_ (fun hH=>?_)
 · exact ⟨(Lx3.cell (p:=⟨nb,no+i,none⟩) hnb).trans cn,(Lx3.cell (p:=⟨B3,0,none⟩) hB3).trans c3⟩
 clear hK K
 try simp only [qq]
 refine wpAnyH_done (by kernel_rfl) ?_ _
 exact hKK _ _ _ _ _ _ _ _ _ _ _ _ _ _ _ z12 CY.out Lx3
theorem nms_cell {w:World} {base nb no cc:Nat} {C:List ByteArray} (h:w.ownsRow base 9 1 (.slice (some ⟨nb,no,none⟩) C.length cc) C.length (nmC C)) {i:Nat} (hi:i<C.length):w.cell? ⟨nb,no+i,none⟩=some (.string (C.getD i ⟨#[]⟩))/\nb<w.heap.size:=by
 obtain ⟨a,c,e,hn⟩:=row_nms h
 injection e with e _ _
 subst e
 rcases hn with hn | ⟨b,off,e,h1,h2⟩
 · rw [hn] at hi;cases hi
 injection e with e
 injection e with e1 e2
 subst e1 e2
 exact ⟨h2 i hi,h1⟩
theorem c16 (E:Env) (a:Option Addr) (cap:Nat) (fs:List F2) (ms:List M3) (hE:E=envOf fs ms) (wa:Option Addr) (wc:Nat) (ws:List W8) (nm:ByteArray) (w:World) (hat:FilesAt w a fs) (ht:treeOk fs) (hp:IsPT fs ms) (hlw:ws.length<=300) (hws:WysAt w wa ws) (hlv:∀ i,i<ws.length->LvAt w (ws.getD i w8z)/\(ws.getD i w8z).ls.length<=15) (hw:Wys E ws) (hd:∀ n,IsDd E n (dW fs ms ws n)):
 Calls prog 16 #[.agg #[.slice a fs.length cap],.slice wa ws.length wc,.string nm] w fun e w'=>(∃ v,e=.returned v/\∃ xs,DRow w.heap.size v xs w'/\IsDs E nm (xs.map (·.d)))/\Below w.heap.size w w':=by
 have hEE:EnvOk E:=by rw [hE];exact envOk ht hp
 have hms:E.ms.length<=30:=by rw [hE];show (ms.map toM).length<=30;rw [List.length_map];exact isPT_30 hp
 have HAT:=hidI hat
 have HT:=hidI ht
 have HP:=hidI hp
 have HWS:=hidI hws
 have HLV:=hidI hlv
 have HDD:=hidI hd
 have HEE:=hidI hEE
 have hfl:fs.length<=1048576:=by have:=ht.1;omega
 have HF:=hidI (tree_le ht)
 obtain ⟨u0,hu0⟩:∃ u:World,u=w.alloc (.cells #[.slice a fs.length cap] 30):=⟨_,rfl⟩
 obtain ⟨u1,hu1⟩:∃ u:World,u=u0.alloc (.cells #[] 55):=⟨_,rfl⟩
 have HU0:=hidI hu0
 have HU1:=hidI hu1
 have b0:Below w.heap.size w u0:=by rw [hu0];exact (Below.refl _ _).alloc (Nat.le_refl _) _
 have b1:Below w.heap.size w u1:=by rw [hu1];exact b0.alloc b0.size _
 have C3:Hid (Cl u1 w.heap.size 30 [.slice a fs.length cap]):=by show Cl _ _ _ _;rw [hu1,hu0];exact cl_old (cl_new w _ 30) _
 have hz0:u0.heap.size=w.heap.size+1:=by rw [hu0];simp
 have R0:Hid (u1.ownsRow w.heap.size 55 8 (.slice (some ⟨w.heap.size+1,0,none⟩) 0 0) 0 []):=by show World.ownsRow _ _ _ _ _ _ _;rw [hu1,<- hz0];exact World.ownsRow_made u0 #[] 0 b0.size (Nat.zero_le _) rfl
 have h33:=c33 E hEE hms wa wc ws nm u1 hlw (wys_below hws b1) (fun i hi=>⟨(hlv i hi).1.below b1,(hlv i hi).2⟩) hw
 have HLEN:Hid (∀ C,AscN C->(∀ k,k∈C↔Rch E nm k)->C.length<=481):=fun C h1 h2=>rch_len hEE hms (asc_nodup h1) (fun k hk=>(h2 k).1 hk)
 clear hat ht hp hws hlv hw hd hEE hms hE hu0 hu1 b0
 go_enter func16,ntmps16
 go_upto_region 2 with fail
 rw [<- HU0.out,<- HU1.out]
 clear HU0 HU1
 go_wp2_with fail
 refine h33.mono ?_
 rintro e u2 ⟨⟨v8,rfl,C,hrC,hasc,hmem⟩,hb2⟩
 have hl481:=HLEN.out C hasc hmem
 have hrC:=owns_mono hrC b1.size
 obtain ⟨ca,cc,hv8,hnms⟩:=row_nms hrC
 subst hv8
 obtain ⟨nb,no,hca⟩:∃ nb no,ca=some ⟨nb,no,none⟩:=by
  rcases hnms with h | ⟨b,off,h,_⟩
  · have:=(hmem nm).2 .base
    rw [h] at this;cases this
  exact ⟨b,off,h⟩
 subst hca
 have HRC:=hidI hrC
 have HC3:=hidI (C3.out.below hb2 C3.out.lt)
 have HR0:=hidI (ownsRow_below R0.out hb2)
 have HBW:=hidI (b1.trans (hb2.mono b1.size))
 have HASC:=hidI hasc
 have HMEM:=hidI hmem
 clear h33 hrC hasc hmem hnms hb2 b1 R0 C3 HLEN
 go_wp2_with fail
 go_loopw [7,9] (fun v7 v9 wr=>∃ (i:Nat) (xs:List De) (va:Option Addr) (vc:Nat),i<=C.length/\v7=.slice va xs.length vc/\v9=.int .i64 i/\Hid (DRow w.heap.size (.slice va xs.length vc) xs wr)/\Hid (xs.map (·.d)=(C.take i).map (dW fs ms ws))/\Hid (wr.ownsRow w.heap.size 9 1 (.slice (some ⟨nb,no,none⟩) C.length cc) C.length (nmC C))/\Hid (Cl wr w.heap.size 30 [.slice a fs.length cap])/\Hid (Below w.heap.size w wr)) (fun _ v9 _=>C.length - (intOf v9).toNat)
 case atStart=>exact ⟨0,[],_,_,Nat.zero_le _,rfl,rfl,⟨HR0.out,(fun x h=>by cases h),List.Pairwise.nil⟩,rfl,HRC.out,HC3.out,HBW.out⟩
 clear HR0 HRC HC3 HBW
 obtain ⟨i,xs,va,vc,hi,rfl,rfl,HDR,HMP,HRC,HC3,HBW⟩:=hrel
 have hxl:xs.length<=481:=by have:=congrArg List.length HMP.out;simp at this;omega
 by_cases hlt:i<C.length
 rotate_left
 · obtain rfl:i=C.length:=by omega
   have HDS:Hid (IsDs E nm (xs.map (·.d))):=by
    have e1:xs.map (·.d)=C.map (dW fs ms ws):=by rw [HMP.out,List.take_length]
    have e2:(xs.map (·.d)).map (·.nm)=C:=by
     rw [e1,List.map_map]
     exact (List.map_congr_left fun n _=>isDd_nm (HDD.out n)).trans (List.map_id _)
    refine ⟨by rw [e2];exact HASC.out,fun d hdm=>?_,fun k=>by rw [e2];exact HMEM.out k⟩
    rw [e1] at hdm
    obtain ⟨n,_,rfl⟩:=List.mem_map.1 hdm
    have:=HDD.out n
    rw [<- isDd_nm this] at this
    rw [isDd_nm (HDD.out n)] at this ⊢
    exact HDD.out n
   go_wp2
   go_ret
   exact ⟨⟨_,rfl,xs,HDR.out,HDS.out⟩,HBW.out⟩
 obtain ⟨gN,hnb⟩:=nms_cell HRC.out hlt
 have HTK:Hid (C.take (i+1)=C.take i++[C.getD i ⟨#[]⟩]):=by show _=_;rw [List.take_succ_eq_append_getElem hlt];simp [List.getD,List.getElem?_eq_getElem hlt]
 generalize C.getD i ⟨#[]⟩=n at*
 have h34:=c34 wa wc ws n wr hlw (wys_below HWS.out HBW.out) (fun j hj=>by obtain ⟨x,y,h,_⟩:=(HLV.out j hj).1;exact ⟨x,_,y,h⟩)
 obtain ⟨z,mb,e1,e2,HLZ,hT,hF⟩:∃ (z:W8) (mb:Bool),(fndW ws n).getD w8z=z/\(fndW ws n).isSome=mb/\Hid (LvAt w z/\z.ls.length<=15)/\Hid (mb=true->dW fs ms ws n=⟨n,true,z.m,z.ls,wrapW (knW fs ms ws n),z.wt⟩)/\Hid (mb=false->dW fs ms ws n=⟨n,false,m3z,[],wrapW (knW fs ms ws n),⟨#[]⟩⟩):=by
  cases hf:fndW ws n with
  | none=>exact ⟨w8z,false,rfl,rfl,⟨⟨none,0,rfl,.inl rfl,fun k e=>by cases e⟩,by simp [w8z]⟩,(fun h=>by cases h),fun _=>by unfold dW;rw [hf]⟩
  | some z=>
   obtain ⟨_,j,hj,e⟩:=fnd_mem hf
   exact ⟨z,true,rfl,rfl,by rw [<- e];exact HLV.out j hj,(fun _=>by unfold dW;rw [hf]),fun h=>by cases h⟩
 rw [e1,e2] at h34
 obtain ⟨rr,HRR⟩:∃ r,Hid (wrapW (knW fs ms ws n)=r):=⟨_,rfl⟩
 have h35:Hid (∀ u,Below w.heap.size w u->Calls prog 35 #[.agg #[.slice a fs.length cap],.slice wa ws.length wc,.string n] u fun e w'=>e=.returned (.agg #[.int .i64 rr.code,.string rr.tx])/\Below u.heap.size u w'):=fun u hu=>by
  have:=c35 a cap fs ms wa wc ws n u hfl HF.out (G.T.files_below HAT.out hu) HT.out HP.out hlw (wys_below HWS.out hu)
  rw [HRR.out] at this
  exact this
 rw [HRR.out] at hT hF
 obtain ⟨rc,rt⟩:=rr
 dsimp only at h35
 obtain ⟨la,lc,hla,hlk,hlb⟩:=HLZ.out.1
 have hl15:=HLZ.out.2
 obtain ⟨⟨xn,xt,xa⟩,xl,ls,xo,xc,xx,xw⟩:=z
 dsimp only at hla hT hl15
 subst hla
 clear e1 e2 hlk hlb
 go_wp2_with fail
 refine h34.mono ?_
 rintro e w1 ⟨rfl,hb1⟩
 rw [show (W8.vs ⟨⟨xn,xt,xa⟩,.slice la ls.length lc,ls,xo,xc,xx,xw⟩).toArray=#[.string xn,.string xt,.string xa,.slice la ls.length lc,.bool xo,.int .i64 xc,.string xx,.string xw] from rfl]
 go_upto_region 7 with (refine wl_stN rfl 69 _ _ rfl (B:=w1.heap.size) (j:=0) rfl (vs:=[.string xn,.string xt,.string xa,.slice la ls.length lc,.bool xo,.int .i64 xc,.string xx,.string xw]) rfl (cl_new w1 z8 69) (by simp [z8]) (by intro v hv;simp at hv;rcases hv with rfl | rfl | rfl | rfl | rfl | rfl | rfl | rfl <;> rfl) (by kernel_rfl) ?_;intro w2 hc2 ho2)
 have hb2:Below wr.heap.size wr w2:=hb1.trans ((((Below.refl _ _).alloc (Nat.le_refl _) _).trans (ho2.below (Nat.le_refl _))).mono hb1.size)
 have C10:Hid (Cl w2 w1.heap.size 69 [.string xn,.string xt,.string xa,.slice la ls.length lc,.bool xo,.int .i64 xc,.string xx,.string xw]):=hidI hc2
 have HDR:=hidI (HDR.out.below hb2)
 have HRC:=hidI (ownsRow_below HRC.out hb2)
 have HC3:=hidI (HC3.out.below hb2 HC3.out.lt)
 have HBW:=hidI (HBW.out.trans (hb2.mono HBW.out.size))
 have gN2:=(hb2.cell (p:=⟨nb,no+i,none⟩) hnb).trans gN
 have hnb2:nb<w2.heap.size:=Nat.lt_of_lt_of_le hnb hb2.size
 have hz12:w.heap.size<w2.heap.size:=HC3.out.lt
 have HB2K:Hid (∀ k,((Value.slice va xs.length vc).ownBlock=some k\/∃ x∈xs,x.lv.ownBlock=some k)->k<w2.heap.size):=fun k h=>h.elim (fun e=>(HDR.out.row.lt k e).2) (fun ⟨x,hx,e⟩=>((HDR.out.lk x hx).lt k e).2)
 have HB2N:Hid (∀ k,(Value.slice (some ⟨nb,no,none⟩) C.length cc).ownBlock=some k->k<w2.heap.size):=fun k e=>(HRC.out.lt k e).2
 have hz10:w1.heap.size<w2.heap.size:=C10.out.lt
 clear h34 hc2 ho2 hb1 hb2 gN
 try simp only [qq]
 refine r16 w.heap.size nb no C.length cc i a cap fs.length wa wc ws n mb rc rt w2 _ _ _ _ _ _ _ _ _ _ _ _ _ _ _ _ _ _ _ _ _ _ _ _ _ _ _ _ _ _ _ _ _ _ _ _ _ _ _ _ _ _ _ _ _ _ _ _ _ _ _ _ _ _ ?hq1 (HC3.out.cell 0) HC3.out.lt gN2 hnb2 hlt (by omega) (hidI fun u hu=>h35.out u (HBW.out.trans (hu.mono HBW.out.size))) ?kk1
 case hq1=>exact fun _ _ d _ _ h=>by cases d <;> exact h
 intro t32 t33 t34 t35 t36 t37 t38 t39 t40 t41 t42 t43 t44 B12 w3 hB12 hc3 hb3
 have C12:=hidI hc3
 have C10:=hidI (C10.out.below hb3 C10.out.lt)
 have HDR:=hidI (HDR.out.below hb3)
 have HRC:=hidI (ownsRow_below HRC.out hb3)
 have HC3:=hidI (HC3.out.below hb3 HC3.out.lt)
 have HBW:=hidI (HBW.out.trans (hb3.mono HBW.out.size))
 have hz23:w2.heap.size<=w3.heap.size:=hb3.size
 have hlt12:Hid (∀ k,((Value.slice va xs.length vc).ownBlock=some k\/∃ x∈xs,x.lv.ownBlock=some k)->k<w2.heap.size):=HB2K
 have hltN:Hid (∀ k,(Value.slice (some ⟨nb,no,none⟩) C.length cc).ownBlock=some k->k<w2.heap.size):=HB2N
 clear hc3 hb3 gN2 hnb2 h35
 cases mb
 · have HDW:=hidI hF.out
   clear hT hF
   have hal:Below w3.heap.size w3 (w3.alloc (.cells #[.string n,.bool false,.string ⟨#[]⟩,.string ⟨#[]⟩,.string ⟨#[]⟩,.slice none 0 0,.int .i64 rc,.string rt] 55)):=(Below.refl _ _).alloc (Nat.le_refl _) _
   have HDA:=hidI (HDR.out.below hal)
   have G4:Hid (Cl (w3.alloc (.cells #[.string n,.bool false,.string ⟨#[]⟩,.string ⟨#[]⟩,.string ⟨#[]⟩,.slice none 0 0,.int .i64 rc,.string rt] 55)) w3.heap.size 55 [.string n,.bool false,.string ⟨#[]⟩,.string ⟨#[]⟩,.string ⟨#[]⟩,.slice none 0 0,.int .i64 rc,.string rt]):=hidI (cl_new w3 _ 55)
   have HXR:Hid (World.ownsRow (w3.alloc (.cells #[.string n,.bool false,.string ⟨#[]⟩,.string ⟨#[]⟩,.string ⟨#[]⟩,.slice none 0 0,.int .i64 rc,.string rt] 55)) w.heap.size 98 4 (.slice none 0 0) (⟨⟨n,false,m3z,[],⟨rc,rt⟩,⟨#[]⟩⟩,.slice none 0 0⟩:De).d.ls.length (lkCells (⟨⟨n,false,m3z,[],⟨rc,rt⟩,⟨#[]⟩⟩,.slice none 0 0⟩:De).d.ls)):=hidI (World.ownsRow_nil _ _ _ _)
   have hbs:w.heap.size<=(w3.alloc (.cells #[.string n,.bool false,.string ⟨#[]⟩,.string ⟨#[]⟩,.string ⟨#[]⟩,.slice none 0 0,.int .i64 rc,.string rt] 55)).heap.size:=by have:=HBW.out.size;simp;omega
   go_wp2_with (first | (refine wl_val rfl (ex_ldN 55 _ rfl (B:=B12) (j:=0) (cs:=[.string n,.bool false,.string ⟨#[]⟩,.string ⟨#[]⟩,.string ⟨#[]⟩,.slice none 0 0,.int .i64 rc,.string rt]) rfl (fun q v e=>by rw [Nat.zero_add];exact (C12.out.cell q).trans e) underlying55 rfl (by kernel_rfl)) ?_) | (refine wl_app rfl _ _ 26 rfl w.heap.size 55 8 underlying26 inf55 (by decide) (.slice va xs.length vc) xs.length (deC xs) rfl HDA.out.row _ 1 [.string n,.bool false,.string ⟨#[]⟩,.string ⟨#[]⟩,.string ⟨#[]⟩,.slice none 0 0,.int .i64 rc,.string rt] rfl (.inr ⟨⟨w3.heap.size,0,none⟩,1,rfl,rfl,cl_row G4.out⟩) (by intro v hv;simp at hv;rcases hv with rfl | rfl | rfl | rfl | rfl | rfl <;> rfl) (by omega) hbs ?_;intro v' w9 O9 g9 at9;have HO9:=hidI O9;have HG9:=hidI g9;clear O9 g9 at9))
   have HDN:Hid (DRow w.heap.size v' (xs++[⟨⟨n,false,m3z,[],⟨rc,rt⟩,⟨#[]⟩⟩,.slice none 0 0⟩]) w9):=hidI (HDA.out.snoc (x:=⟨⟨n,false,m3z,[],⟨rc,rt⟩,⟨#[]⟩⟩,.slice none 0 0⟩) HXR.out (fun y _ k _ e=>by cases e) HO9.out HG9.out)
   have HRN:=hidI (row_gr (ownsRow_below HRC.out hal) HDA.out.row (by decide) HG9.out)
   have HCN:Hid (Cl w9 w.heap.size 30 [.slice a fs.length cap]):=hidI ((HC3.out.below hal HC3.out.lt).gb HG9.out (fun e=>by
    obtain ⟨_,cur,hcu⟩:=own_block HDA.out.row e.symm
    exact blk_ne hcu (HC3.out.below hal HC3.out.lt) (by decide) rfl))
   have HBN:Hid (Below w.heap.size w w9):=hidI (gr_below (HBW.out.trans (hal.mono HBW.out.size)) HG9.out hbs (fun k e=>(HDA.out.row.lt k e).1))
   obtain ⟨vf,vg,hvf⟩:=row_slice HDN.out.row
   subst hvf
   have HMN:Hid ((xs++[(⟨⟨n,false,m3z,[],⟨rc,rt⟩,⟨#[]⟩⟩,.slice none 0 0⟩:De)]).map (·.d)=(C.take (i+1)).map (dW fs ms ws)):=by show _=_;rw [List.map_append,HMP.out,HTK.out,List.map_append];congr 1;simp only [List.map_cons,List.map_nil];rw [HDW.out (by rfl)]
   clear HO9 HG9 HDA G4 hal HXR
   go_wp2
   go_roundw
   case rel=>exact ⟨i+1,xs++[(⟨⟨n,false,m3z,[],⟨rc,rt⟩,⟨#[]⟩⟩,.slice none 0 0⟩:De)],vf,vg,by omega,by simp,by go_num,HDN.out,HMN.out,HRN.out,HCN.out,HBN.out⟩
   case measure=>simp [intOf];omega
 have HDW:=hidI hT.out
 clear hT hF
 go_upto_region 10 with (first | (refine wl_val rfl (ex_ldN 50 _ rfl (B:=w1.heap.size) (j:=0) (cs:=[.string xn,.string xt,.string xa]) rfl (fun q v e=>by
  have hq:q<3:=(List.getElem?_eq_some_iff.1 e).1
  rw [Nat.zero_add,C10.out.cell q,show ([.string xn,.string xt,.string xa,.slice la ls.length lc,.bool xo,.int .i64 xc,.string xx,.string xw]:List Value)=[.string xn,.string xt,.string xa]++[.slice la ls.length lc,.bool xo,.int .i64 xc,.string xx,.string xw] from rfl,List.getElem?_append_left hq]
  exact e) underlying50 rfl (by kernel_rfl)) ?_) | (refine wl_stN rfl 50 _ _ rfl (B:=B12) (j:=2) rfl (vs:=[.string xn,.string xt,.string xa]) rfl C12.out (by simp) (by intro v hv;simp at hv;rcases hv with rfl | rfl | rfl <;> rfl) (by kernel_rfl) ?_;intro w4 hc4 ho4))
 have C12b:Hid (Cl w4 B12 55 [.string n,.bool true,.string xn,.string xt,.string xa,.slice none 0 0,.int .i64 rc,.string rt]):=hidI hc4
 have C10b:=hidI (C10.out.on ho4 (by omega))
 have HDRb:Hid (DRow w.heap.size (.slice va xs.length vc) xs w4):=hidI (HDR.out.keep (fun k e=>ho4.block k (fun c=>by have:=hlt12.out k (.inl e);omega)) (fun x hx k e=>ho4.block k (fun c=>by have:=hlt12.out k (.inr ⟨x,hx,e⟩);omega)))
 have HRCb:=hidI (ownsRow_keep HRC.out fun k e=>ho4.block k (fun c=>by have:=hltN.out k e;omega))
 have HC3b:=hidI (HC3.out.on ho4 (by omega))
 have HBWb:=hidI (HBW.out.trans (ho4.below (by omega)))
 have hz4:w2.heap.size<=w4.heap.size:=by rw [ho4.size];exact hz23
 clear hc4 ho4
 have d3:w4.cell? ⟨w1.heap.size,3,none⟩=some (.slice la ls.length lc):=C10b.out.cell 3
 have hal:Below w4.heap.size w4 (w4.alloc (.cells #[] 98)):=(Below.refl _ _).alloc (Nat.le_refl _) _
 have d3':=(hal.cell (p:=⟨w1.heap.size,3,none⟩) C10b.out.lt).trans d3
 have HSR:=hidI ((HLZ.out.1.below HBWb.out).src hal)
 have HRM:Hid ((w4.alloc (.cells #[] 98)).ownsRow w.heap.size 98 4 (.slice (some ⟨w4.heap.size,0,none⟩) 0 0) 0 []):=hidI (owns_mono (World.ownsRow_made w4 #[] 0 (Nat.le_refl _) (Nat.zero_le _) rfl) HBWb.out.size)
 have HON:=hidI (lkCells_one ls)
 have hbs:w.heap.size<=(w4.alloc (.cells #[] 98)).heap.size:=by have:=HBWb.out.size;simp;omega
 have C12c:=hidI (C12b.out.below hal C12b.out.lt)
 go_upto_region 11 with (refine wl_app rfl _ _ 51 rfl w.heap.size 98 4 underlying51 inf98 (by decide) (.slice (some ⟨w4.heap.size,0,none⟩) 0 0) 0 [] rfl HRM.out _ ls.length (lkCells ls) rfl HSR.out HON.out (by omega) hbs ?_;intro v5 w5 O5 g5 at5;obtain ⟨a5,c5,hv5⟩:=row_slice O5;rw [Nat.zero_add,List.nil_append] at O5;rw [Nat.zero_add] at hv5;subst hv5;have C12d:=hidI (C12c.out.gb g5 (fun e=>by have:B12=w4.heap.size:=Option.some.inj e;have:=C12b.out.lt;omega));have q5:w5.cell? ⟨B12,5,none⟩=some (.slice none 0 0):=C12d.out.cell 5;have f5:=C12d.out.opn 5)
 have V5:Hid (∀ k,(Value.slice a5 ls.length c5).ownBlock=some k->w4.heap.size<=k):=fun k e=>by
  rcases at5 with h | h
  · rw [h] at e;have:w4.heap.size=k:=Option.some.inj e;omega
  rw [h] at e;have:=Option.some.inj e;simp at this;omega
 have hon:=on_set w5 B12 5 (.slice a5 ls.length c5)
 have C12e:Hid (Cl (w5.setCell ⟨B12,5,none⟩ (.slice a5 ls.length c5)) B12 55 [.string n,.bool true,.string xn,.string xt,.string xa,.slice a5 ls.length c5,.int .i64 rc,.string rt]):=hidI (C12d.out.set 5 (.slice a5 ls.length c5))
 have hB4:B12<w4.heap.size:=C12b.out.lt
 have hgk:∀ k,k<w4.heap.size->k≠B12->(w5.setCell ⟨B12,5,none⟩ (.slice a5 ls.length c5)).heap[k]?=w4.heap[k]?:=fun k hk hne=>(hon.block k hne).trans ((g5.block k (by simp;omega) (fun e=>by have:k=w4.heap.size:=Option.some.inj e;omega)).trans (hal.block k hk))
 have HGK:=hidI hgk
 have R6:Hid ((w5.setCell ⟨B12,5,none⟩ (.slice a5 ls.length c5)).ownsRow w.heap.size 98 4 (.slice a5 ls.length c5) ls.length (lkCells ls)):=hidI (ownsRow_keep O5 fun k e=>hon.block k (by have:=V5.out k e;omega))
 have HBW6:Hid (Below w.heap.size w (w5.setCell ⟨B12,5,none⟩ (.slice a5 ls.length c5))):=hidI ((gr_below (v:=.slice (some ⟨w4.heap.size,0,none⟩) 0 0) (HBWb.out.trans (hal.mono HBWb.out.size)) g5 hbs (fun k e=>by have:w4.heap.size=k:=Option.some.inj e;have:=HBWb.out.size;omega)).trans (hon.below (by omega)))
 generalize (w5.setCell ⟨B12,5,none⟩ (.slice a5 ls.length c5))=w6 at*
 have HDR:Hid (DRow w.heap.size (.slice va xs.length vc) xs w6):=hidI (HDRb.out.keep (fun k e=>HGK.out k (by have:=hlt12.out k (.inl e);omega) (by have:=hlt12.out k (.inl e);omega)) (fun x hx k e=>HGK.out k (by have:=hlt12.out k (.inr ⟨x,hx,e⟩);omega) (by have:=hlt12.out k (.inr ⟨x,hx,e⟩);omega)))
 have HRC:=hidI (ownsRow_keep HRCb.out fun k e=>HGK.out k (by have:=hltN.out k e;omega) (by have:=hltN.out k e;omega))
 have HC3:Hid (Cl w6 w.heap.size 30 [.slice a fs.length cap]):=hidI ((HGK.out _ HC3b.out.lt (by omega)).trans HC3b.out)
 have HBW:=HBW6
 have HNE:Hid (∀ y∈xs,∀ k,y.lv.ownBlock=some k->(Value.slice a5 ls.length c5).ownBlock≠some k):=fun y hy k e c=>by have:=V5.out k c;have:=hlt12.out k (.inr ⟨y,hy,e⟩);omega
 clear hal hon hgk O5 g5 at5 q5 f5 d3 d3' HSR HRM HON hbs C12b C12c C12d C10b HDRb HRCb HC3b HBWb HBW6 HGK
 have hal:Below w6.heap.size w6 (w6.alloc (.cells #[.string n,.bool true,.string xn,.string xt,.string xa,.slice a5 ls.length c5,.int .i64 rc,.string rt] 55)):=(Below.refl _ _).alloc (Nat.le_refl _) _
 have HDA:=hidI (HDR.out.below hal)
 have G4:Hid (Cl (w6.alloc (.cells #[.string n,.bool true,.string xn,.string xt,.string xa,.slice a5 ls.length c5,.int .i64 rc,.string rt] 55)) w6.heap.size 55 [.string n,.bool true,.string xn,.string xt,.string xa,.slice a5 ls.length c5,.int .i64 rc,.string rt]):=hidI (cl_new w6 _ 55)
 have HXR:Hid (World.ownsRow (w6.alloc (.cells #[.string n,.bool true,.string xn,.string xt,.string xa,.slice a5 ls.length c5,.int .i64 rc,.string rt] 55)) w.heap.size 98 4 (.slice a5 ls.length c5) (⟨⟨n,true,⟨xn,xt,xa⟩,ls,⟨rc,rt⟩,xw⟩,.slice a5 ls.length c5⟩:De).d.ls.length (lkCells (⟨⟨n,true,⟨xn,xt,xa⟩,ls,⟨rc,rt⟩,xw⟩,.slice a5 ls.length c5⟩:De).d.ls)):=hidI (ownsRow_below R6.out hal)
 have hbs:w.heap.size<=(w6.alloc (.cells #[.string n,.bool true,.string xn,.string xt,.string xa,.slice a5 ls.length c5,.int .i64 rc,.string rt] 55)).heap.size:=by have:=HBW.out.size;simp;omega
 go_wp2_with (first | (refine wl_val rfl (ex_ldN 55 _ rfl (B:=B12) (j:=0) (cs:=[.string n,.bool true,.string xn,.string xt,.string xa,.slice a5 ls.length c5,.int .i64 rc,.string rt]) rfl (fun q v e=>by rw [Nat.zero_add];exact (C12e.out.cell q).trans e) underlying55 rfl (by kernel_rfl)) ?_) | (refine wl_app rfl _ _ 26 rfl w.heap.size 55 8 underlying26 inf55 (by decide) (.slice va xs.length vc) xs.length (deC xs) rfl HDA.out.row _ 1 [.string n,.bool true,.string xn,.string xt,.string xa,.slice a5 ls.length c5,.int .i64 rc,.string rt] rfl (.inr ⟨⟨w6.heap.size,0,none⟩,1,rfl,rfl,cl_row G4.out⟩) (by intro v hv;simp at hv;rcases hv with rfl | rfl | rfl | rfl | rfl | rfl | rfl | rfl <;> rfl) (by omega) hbs ?_;intro v' w9 O9 g9 at9;have HO9:=hidI O9;have HG9:=hidI g9;clear O9 g9 at9))
 have HDN:Hid (DRow w.heap.size v' (xs++[⟨⟨n,true,⟨xn,xt,xa⟩,ls,⟨rc,rt⟩,xw⟩,.slice a5 ls.length c5⟩]) w9):=hidI (HDA.out.snoc (x:=⟨⟨n,true,⟨xn,xt,xa⟩,ls,⟨rc,rt⟩,xw⟩,.slice a5 ls.length c5⟩) HXR.out HNE.out HO9.out HG9.out)
 have HRN:=hidI (row_gr (ownsRow_below HRC.out hal) HDA.out.row (by decide) HG9.out)
 have HCN:Hid (Cl w9 w.heap.size 30 [.slice a fs.length cap]):=hidI ((HC3.out.below hal HC3.out.lt).gb HG9.out (fun e=>by
  obtain ⟨_,cur,hcu⟩:=own_block HDA.out.row e.symm
  exact blk_ne hcu (HC3.out.below hal HC3.out.lt) (by decide) rfl))
 have HBN:Hid (Below w.heap.size w w9):=hidI (gr_below (HBW.out.trans (hal.mono HBW.out.size)) HG9.out hbs (fun k e=>(HDA.out.row.lt k e).1))
 obtain ⟨vf,vg,hvf⟩:=row_slice HDN.out.row
 subst hvf
 have HMN:Hid ((xs++[(⟨⟨n,true,⟨xn,xt,xa⟩,ls,⟨rc,rt⟩,xw⟩,.slice a5 ls.length c5⟩:De)]).map (·.d)=(C.take (i+1)).map (dW fs ms ws)):=by show _=_;rw [List.map_append,HMP.out,HTK.out,List.map_append];congr 1;simp only [List.map_cons,List.map_nil];rw [HDW.out (by rfl)]
 clear HO9 HG9 HDA G4 hal HXR
 go_wp2
 go_roundw
 case rel=>exact ⟨i+1,xs++[(⟨⟨n,true,⟨xn,xt,xa⟩,ls,⟨rc,rt⟩,xw⟩,.slice a5 ls.length c5⟩:De)],vf,vg,by omega,by simp,by go_num,HDN.out,HMN.out,HRN.out,HCN.out,HBN.out⟩
 case measure=>simp [intOf];omega
theorem c5y (a:Option Addr) (cap:Nat) (fs:List F2) (ms:List M3) (nm:ByteArray) (w:World) (hat:FilesAt w a fs) (ht:treeOk fs) (hp:IsPT fs ms) (hn:nameOk nm.data.toList=true):
 Calls prog 5 #[.agg #[.slice a fs.length cap],.string nm] w fun e w'=>(∃ v,e=.returned v/\∃ xs,DRow w.heap.size v xs w'/\IsDs (envOf fs ms) nm (xs.map (·.d)))/\Below w.heap.size w w':=by
 have HAT:=hidI hat
 have HT:=hidI ht
 have HP:=hidI hp
 have hfl:fs.length<=1048576:=by have:=ht.1;omega
 have HF:=hidI (tree_le ht)
 have hns:nm.size<=20:=name_le hn
 have hB0:∀ o1,Below w.heap.size w (w.alloc o1):=fun o1=>(Below.refl _ _).alloc (Nat.le_refl _) _
 clear hat ht hp
 go_enter func5,ntmps5
 go_wp2_with fail
 refine (G.T.c14 a cap fs _ hfl HF.out (G.T.files_below HAT.out (hB0 _))).mono ?_
 rintro e w1 ⟨⟨b,rfl,hb⟩,hb1⟩
 obtain rfl:b=true:=hb.2 HT.out
 have hB1:Below w.heap.size w w1:=(hB0 _).trans (hb1.mono (by simp))
 have t1:w1.cell? ⟨w.heap.size,0,none⟩=some (.slice a fs.length cap):=(hb1.cell (p:=⟨w.heap.size,0,none⟩) (by simp)).trans (by simp [go_sem])
 have hz1:w.heap.size<w1.heap.size:=by have:=hb1.size;simp at this;omega
 clear hb hb1 hB0
 go_wp2_with fail
 refine (c15 nm w1 (by omega)).mono ?_
 rintro e w2 ⟨he,rfl⟩
 have e':e=.returned (.bool true):=by rw [he];exact congrArg (fun b=>Ending.returned (.bool b)) hn
 subst e'
 clear he
 go_upto_region 3 with fail
 obtain ⟨x0,hx0⟩:∃ x:World,x=w2.drew:=⟨_,rfl⟩
 have hBx:Below w.heap.size w x0:=by rw [hx0];exact hB1.drew
 refine wp_region_held_drew (S:=fun u=>u.cell? ⟨w.heap.size,0,none⟩=some (.slice a fs.length cap)) (by kernel_rfl) ?_ (fun hH=>?_)
 · exact t1
 rw [<- hx0] at hH ⊢
 have hq0:w.heap.size<x0.heap.size:=by rw [hx0];exact hz1
 have q0:x0.cell? ⟨w.heap.size,0,none⟩=some (.slice a fs.length cap):=hH
 clear hx0
 refine tq 0 hH ?_
 refine tq 1 hH ?_
 refine tq 3 hH ?_
 try simp only [qq]
 refine rq 2 (fun K hK=>?_)
 go_simp
 refine (c17 (envOf fs ms) a cap fs ms rfl x0 (G.T.files_below HAT.out hBx) HT.out HP.out).mono ?_
 rintro e x1 ⟨v,ws,rfl,hA,hM,hB⟩
 have hl1:ws.length=ms.length:=by have:=congrArg List.length hM;simpa using this
 obtain ⟨wa,wc,hv,hws⟩:=row_wys hA.row
 subst hv
 have HEE:=hidI (envOk HT.out HP.out)
 have HLN:Hid (ws.length<=300):=by have:=isPT_30 HP.out;show _<=_;omega
 have HWY:=hidI (wys_of HT.out HP.out hA.ok hM hB)
 have HDO:=hidI (deeds_of HT.out HP.out hA.ok hM hB)
 have hB1x:Below x0.heap.size x0 x1:=hA.bl
 have hBW:Below w.heap.size w x1:=hBx.trans (hB1x.mono hBx.size)
 have h16:=c16 (envOf fs ms) a cap fs ms rfl wa wc ws nm x1 (G.T.files_below HAT.out hBW) HT.out HP.out HLN.out hws (fun i hi=>⟨hA.lv i hi,(hist_ok HEE.out (HEE.out.ms _ (hA.ok i hi).mem) (hA.ok i hi).his).1⟩) HWY.out HDO.out
 clear hA hM hB hl1 hws
 go_simp
 clear hH
 refine hK.out _ _ ?_ (fun hH=>?_)
 · exact (hB1x.cell (p:=⟨w.heap.size,0,none⟩) hq0).trans q0
 clear hK K
 try simp only [qq]
 refine rq 4 (fun K hK=>?_)
 go_simp
 refine h16.mono ?_
 rintro e x2 ⟨⟨v,rfl,xs,hdr,hds⟩,hb2⟩
 obtain ⟨va,vc,hv⟩:=row_slice hdr.row
 subst hv
 have HDR:=hidI hdr
 have HDS:=hidI hds
 have HBB:=hidI (hBW.trans (hb2.mono hBW.size))
 have hle:w.heap.size<=x1.heap.size:=hBW.size
 have q2:=(hb2.cell (p:=⟨w.heap.size,0,none⟩) (Nat.lt_of_lt_of_le hq0 hB1x.size)).trans ((hB1x.cell (p:=⟨w.heap.size,0,none⟩) hq0).trans q0)
 clear h16 hdr hds hb2
 go_simp
 clear hH
 refine hK.out _ _ ?_ (fun hH=>?_)
 · exact q2
 clear hK K
 refine tq 5 hH ?_
 try simp only [qq]
 refine wpAnyH_done (by kernel_rfl) ?_ _
 clear hH
 go_wp2
 go_ret
 exact ⟨⟨_,rfl,xs,⟨owns_mono HDR.out.row hle,fun x hx=>owns_mono (HDR.out.lk x hx) hle,HDR.out.ne⟩,HDS.out⟩,HBB.out⟩
theorem c5n (a:Option Addr) (cap:Nat) (fs:List F2) (nm:ByteArray) (w:World) (hl:fs.length<=1048576) (hs:∀ i,(fs.getD i f2z).le 1048576) (hat:FilesAt w a fs) (hns:nm.size<=1048576) (hno:¬ treeOk fs\/nameOk nm.data.toList=false):
 Calls prog 5 #[.agg #[.slice a fs.length cap],.string nm] w fun e w'=>(∃ v,e=.returned v/\DRow w.heap.size v [] w')/\Below w.heap.size w w':=by
 have HAT:=hidI hat
 have HF:=hidI hs
 have HN:=hidI hno
 have hB0:∀ o1,Below w.heap.size w (w.alloc o1):=fun o1=>(Below.refl _ _).alloc (Nat.le_refl _) _
 clear hat hs hno
 go_enter func5,ntmps5
 go_wp2_with fail
 refine (G.T.c14 a cap fs _ hl HF.out (G.T.files_below HAT.out (hB0 _))).mono ?_
 rintro e w1 ⟨⟨b,rfl,hb⟩,hb1⟩
 have hB1:Below w.heap.size w w1:=(hB0 _).trans (hb1.mono (by simp))
 have HE:Hid (DRow w.heap.size (.slice (some ⟨w1.heap.size,0,none⟩) 0 0) [] (w1.alloc (.cells #[] 55))/\Below w.heap.size w (w1.alloc (.cells #[] 55))):=⟨⟨owns_mono (World.ownsRow_made w1 #[] 0 (Nat.le_refl _) (Nat.zero_le _) rfl) hB1.size,(fun x h=>by cases h),List.Pairwise.nil⟩,hB1.alloc hB1.size _⟩
 have HBT:=hidI hb
 clear hb hb1 hB0
 cases b
 · go_wp2
   go_ret
   exact ⟨⟨_,rfl,HE.out.1⟩,HE.out.2⟩
 have hn:nameOk nm.data.toList=false:=by
  rcases HN.out with h | h
  · exact absurd (HBT.out.1 rfl) h
  exact h
 go_wp2_with fail
 refine (c15 nm w1 (by omega)).mono ?_
 rintro e w2 ⟨he,rfl⟩
 have e':e=.returned (.bool false):=by rw [he];exact congrArg (fun b=>Ending.returned (.bool b)) hn
 subst e'
 clear he
 go_wp2
 go_ret
 exact ⟨⟨_,rfl,HE.out.1⟩,HE.out.2⟩
