import Derived.Test.YthjhakdpikdoeaaGreatDoorZ46
set_option linter.unusedVariables false
set_option maxHeartbeats 8000000
set_option maxRecDepth 100000
namespace Go.Proofs.YthjhakdpikdoeaaGreatDoor
open Proofs.Tryz
open Go.RowKit
open G (plF IsPT)
open G.T (F2 f2z treeOk FilesAt)
variable {u u' w wr:World} {base i j k n:Nat} {tv v:Value} {ws:List W8} {vs xs:List Value} {E:Env} {m:M3} {ms:List M3} {y:W8}
def wysCells (ws:List W8):List Value:=ws.flatMap W8.vs
theorem vs_len (x:W8):x.vs.length=8:=rfl
theorem wysCells_len (ws:List W8):(wysCells ws).length=ws.length*8:=by
 induction ws with
 | nil=>rfl
 | cons x r ih=>unfold wysCells at *;simp only [List.flatMap_cons,List.length_append,List.length_cons,vs_len,ih];omega
theorem wysCells_snoc (ws:List W8) (x:W8):wysCells (ws++[x])=wysCells ws++x.vs:=by simp [wysCells]
theorem wysCells_get (ws:List W8) (i j:Nat) (h:i<ws.length) (hj:j<8):(wysCells ws)[i*8+j]?=(ws.getD i w8z).vs[j]?:=by
 induction ws generalizing i with
 | nil=>simp at h
 | cons x r ih=>
  show (x.vs++wysCells r)[i*8+j]?=_
  cases i with
  | zero=>rw [List.getElem?_append_left (by rw [vs_len];omega)];simp
  | succ i=>
   rw [List.getElem?_append_right (by rw [vs_len];omega),vs_len];have:=ih i (by simpa using h);rw [show (i+1)*8+j - 8=i*8+j by omega];simpa using this
theorem wys_put (ws:List W8) (i:Nat) (y:W8) (h:i<ws.length):wysCells (ws.set i y)=putL (wysCells ws) (i*8) y.vs:=by
 induction ws generalizing i with
 | nil=>simp at h
 | cons x r ih=>
  cases i with
  | zero=>
   show y.vs++wysCells r=putL (x.vs++wysCells r) (0*8) y.vs;unfold putL;rw [Nat.zero_mul,List.take_zero,Nat.zero_add,vs_len,<- vs_len x,List.drop_left];simp
  | succ i=>
   show x.vs++wysCells (r.set i y)=putL (x.vs++wysCells r) ((i+1)*8) y.vs;rw [ih i (by simpa using h)];unfold putL;have e1:(i+1)*8=x.vs.length+i*8:=by rw [vs_len];omega
   rw [e1,List.take_length_add_append,Nat.add_assoc,List.drop_length_add_append];simp only [List.append_assoc]
theorem row_wys (h:w.ownsRow base 119 8 v ws.length (wysCells ws)):∃ a c,v=.slice a ws.length c/\WysAt w a ws:=by
 have h':=h;rcases h.2 with ⟨hv,h0⟩ | ⟨g,cap,cur,hv,hg,hh,_⟩
 · exact ⟨none,0,by rw [hv,h0],.inl (List.length_eq_zero_iff.1 h0)⟩
 refine ⟨some ⟨g,0,none⟩,cap,hv,?_⟩;subst hv;refine .inr ⟨g,0,rfl,blk_lt hh,fun i hi j v e=>?_⟩;have hj:j<8:=by have:=(List.getElem?_eq_some_iff.1 e).1;rwa [vs_len] at this
 rw [Nat.zero_add,h'.cellAt _ om_,wysCells_get ws i j hi hj];exact e
theorem putL_get (hl:j+vs.length<=xs.length) (i:Nat):(putL xs j vs)[i]?=if j<=i/\i<j+vs.length then vs[i - j]? else xs[i]?:=by
 unfold putL;by_cases h4:i<j
 · rw [if_neg om_,List.append_assoc,List.getElem?_append_left so_,List.getElem?_take_of_lt h4]
 by_cases h5:i<j+vs.length
 · rw [if_pos ⟨om_,h5⟩,List.append_assoc,List.getElem?_append_right so_,List.getElem?_append_left so_]
   congr 1
   simp;omega
 rw [if_neg om_,List.getElem?_append_right so_,List.getElem?_drop]
 congr 1
 simp;omega
theorem putL_take (h1:j+vs.length<=n) (h2:n<=xs.length):(putL xs j vs).take n=putL (xs.take n) j vs:=by
 apply List.ext_getElem?;intro i;rw [putL_get so_,List.getElem?_take,putL_get om_,List.getElem?_take];by_cases h:j<=i/\i<j+vs.length
 · rw [if_pos h,if_pos h,if_pos om_]
 rw [if_neg h,if_neg h]
theorem row_set {w':World} {g cap:Nat} (h:w.ownsRow base 119 8 (.slice (some ⟨g,0,none⟩) n cap) n (wysCells ws)) (hn:n=ws.length) (hi:i<n) (y:W8) (hc:Cl w g 119 xs) (hc':Cl w' g 119 (putL xs (i*8) y.vs)):w'.ownsRow base 119 8 (.slice (some ⟨g,0,none⟩) n cap) n (wysCells (ws.set i y)):=by
 refine ⟨by rw [wysCells_len,List.length_set,hn],?_⟩;rcases h.2 with ⟨hv,h0⟩ | ⟨g',cap',cur,hv,hg,hh,h1,h2,h3,h4⟩
 · omega
 injection hv with hv _ hv2;injection hv with hv;injection hv with hv _ _;subst hv hv2;unfold Cl at hc;rw [hh] at hc;injection hc with hc;injection hc with hc;subst hc;refine .inr ⟨g,cap,_,rfl,hg,hc',h1,h2,?_,?_⟩
 · have:xs.length=cap*8:=by simpa using h3
   simp only [List.size_toArray,putL,List.length_append,List.length_take,List.length_drop,vs_len];omega
 have hx:xs.length=cap*8:=by simpa using h3
 rw [wys_put ws i y om_,<- h4];exact putL_take (by rw [vs_len];omega) om_
theorem r13 (E:Env) (a:Option Addr) (cap:Nat) (fs:List F2) (ms:List M3) (hE:E=envOf fs ms) (wz0 g rc i:Nat) (ws:List W8) (w:World) (u0 u2 u4 u5 u6 u8 u9 u10 u11 u12 u13 u14 u15 u16 u17 u18 u19 u20 u21 u22 u23 u24 u25 u26 u27 u28 u29 u30 u31 u32 u33 u34 u35 u36 u37 u38 u39 u40 u41 u42 u43 u44 u45 u46 u47 u48 u49 u50 u51 u52 u53 u54 u55 u56 u57 u58 u59 u60 u61 u62 u63 u64 u65 u66 u67:Value) {Q:Exit->Act->World->Prop} (hQ:∀ c (a:Act) (d:Option Tmp) (v:Value) w,Q (.panic c) (a.put d v) w->Q (.panic c) a w)
 (HAT:Hid (FilesAt w a fs)) (ht:treeOk fs) (hp:IsPT fs ms) (hlw:ws.length<=300) (HWS:Hid (WysAt w (some ⟨g,0,none⟩) ws)) (hwo:Hid (∀ i,i<ws.length->WOk E (ws.getD i w8z))) (n:Nat) (hn:Hid (n=ws.length)) (hi:i<n) (x:W8) (hx:Hid (WOk E x)) (HLV:Hid (LvAt w x)) (HXB:Hid (∀ k,x.lv.ownBlock=some k->k<w.heap.size)) (C1:Hid (Cl w wz0 51 [.slice a fs.length cap])) (CR:Hid (∀ j v,x.vs[j]?=some v->w.cell? ⟨g,i*8+j,none⟩=some v)) (hg:g<w.heap.size)
 (hKK:∀ (t33 t34 t35 t36 t37 t38 t39:Value) (b8:Nat) (y:W8) (w':World),w.heap.size<=b8->Cl w' b8 119 (putL z8 0 y.vs)->StepTo E (knW fs ms ws) x y->LvAt w' y->Nw w x.lv y.lv->Below w.heap.size w w'->Q .normal { tmps:=#[u0,.pointer (some ⟨wz0,0,none⟩),u2,.slice (some ⟨g,0,none⟩) n rc,u4,u5,u6,.int .i64 i,.pointer (some ⟨b8,0,none⟩),u9,u10,u11,u12,u13,u14,u15,u16,u17,u18,u19,u20,u21,u22,u23,u24,u25,u26,u27,u28,u29,u30,u31,u32,t33,t34,t35,t36,t37,t38,t39,u40,u41,u42,u43,u44,u45,u46,u47,u48,u49,u50,u51,u52,u53,u54,u55,u56,u57,u58,u59,u60,u61,u62,u63,u64,u65,u66,u67],defers:=[] } w'):
 (Code.region 13 #[⟨some 33,.load 51 (.tmp 1),51, "l4_want.go:102",#[],none⟩,⟨some 34,.move (.tmp 3),116, "l4_want.go:102",#[],none⟩,⟨some 35,.move (.tmp 3),116, "l4_want.go:102",#[],none⟩,⟨some 36,.move (.tmp 7),3, "l4_want.go:102",#[],none⟩,⟨some 37,.indexAddr 116 (.tmp 35) (.tmp 36),0, "l4_want.go:102",#[⟨2,.data⟩,⟨3,.data⟩],none⟩,⟨some 38,.load 119 (.tmp 37),119, "l4_want.go:102",#[⟨4,.data⟩],none⟩,⟨some 39,.call ⟨.value (.func 98),#[.tmp 33,.tmp 34,.tmp 38],#[51,116,119]⟩,119, "l4_want.go:102",#[⟨0,.data⟩,⟨1,.data⟩,⟨5,.data⟩],none⟩,⟨some 8,.alloc 119,0, "l4_want.go:102",#[],none⟩,⟨none,.store 119 (.tmp 8) (.tmp 39),0, "l4_want.go:102",#[⟨7,.data⟩,⟨6,.data⟩,⟨6,.chain⟩,⟨0,.phase⟩,⟨1,.phase⟩,⟨2,.phase⟩,⟨3,.phase⟩,⟨4,.phase⟩,⟨5,.phase⟩,⟨6,.phase⟩,⟨7,.phase⟩],none⟩] true).wp prog Q { tmps:=#[u0,.pointer (some ⟨wz0,0,none⟩),u2,.slice (some ⟨g,0,none⟩) n rc,u4,u5,u6,.int .i64 i,u8,u9,u10,u11,u12,u13,u14,u15,u16,u17,u18,u19,u20,u21,u22,u23,u24,u25,u26,u27,u28,u29,u30,u31,u32,u33,u34,u35,u36,u37,u38,u39,u40,u41,u42,u43,u44,u45,u46,u47,u48,u49,u50,u51,u52,u53,u54,u55,u56,u57,u58,u59,u60,u61,u62,u63,u64,u65,u66,u67],defers:=[] } w:=by
 refine wp_region_held_drew (S:=fun u=>Cl u wz0 51 [.slice a fs.length cap]/\∀ j v,x.vs[j]?=some v->u.cell? ⟨g,i*8+j,none⟩=some v) kr_ ?_ fun hH=>?_
 · exact ⟨C1.out,CR.out⟩
 obtain ⟨x0,hx0⟩:∃ x:World,x=w.drew:=⟨_,rfl⟩;rw [<- hx0] at hH ⊢;have L0:Below w.heap.size w x0:=by rw [hx0];exact (Below.refl _ w).drew
 have z0a:x0.heap.size<=w.heap.size:=by rw [hx0];exact Nat.le_refl _
 have z0b:w.heap.size<=x0.heap.size:=by rw [hx0];exact Nat.le_refl _
 clear hx0;have hi':(i:Int)<n:=om_;refine tq 0 hH ?_ (v:=?_) (hv:=?e)
 case e=>intro wq hSw;(try dsimp only at hSw);have s1:wq.cell? ⟨wz0,0,none⟩=some (.slice a fs.length cap):=hSw.1.cell 0;go_simp;try with_reducible rfl
 refine tq 1 hH ?_
 try simp only [qq]
 refine tq 2 hH ?_;refine tq 3 hH ?_
 try simp only [qq]
 refine tq 4 hH ?_
 try simp only [qq]
 refine tk (i:=5) (oi:=⟨some 38,.load 119 (.tmp 37),119,_,_,none⟩) (v:=.agg x.vs.toArray) rfl kr_ rfl ?e hH ?_ (hQ:=fun _ _ _ h=>hQ _ _ _ _ _ h)
 case e=>intro wq hSw;exact ex_ldN 119 _ rfl (by simp [go_sem]) hSw.2 underlying119 rfl kr_
 try simp only [qq]
 refine wpAnyH_ready (rs:=[6,7]) kr_ sm_ (AllReadyH.cons (o:=⟨some 39,.call ⟨.value (.func 98),#[.tmp 33,.tmp 34,.tmp 38],#[51,116,119]⟩,119,_,_,none⟩) rfl (fun K hK=>?_) (AllReadyH.cons (o:=⟨some 8,.alloc 119,0,_,_,none⟩) rfl (fun K hK=>?_) AllReadyH.nil))
 · go_simp
   have hc26:=c98 E a cap fs ms hE (some ⟨g,0,none⟩) rc ws x x0 (G.T.files_below HAT.out L0) ht hp hlw (wys_below HWS.out L0) hwo.out hx.out (HLV.out.below L0);rw [<- hn.out] at hc26;refine hc26.mono ?_;rintro e x1 ⟨y,rfl,hst,hlv,hnw,hbx1⟩;go_simp;have Lall0:Below w.heap.size w x1:=L0.trans (hbx1.mono om_);clear hH;refine hK.out _ _ ?_ fun hH=>?_
   · exact ⟨(Lall0.block _ C1.out.lt).trans C1.out,fun j v e=>(Lall0.cell (p:=⟨g,i*8+j,none⟩) hg).trans (CR.out j v e)⟩
   clear hK K
   try simp only [qq]
   refine rq 7 fun K hK=>?_;go_simp;obtain ⟨x2,hx2⟩:∃ x:World,x=x1.alloc (.cells #[.string ⟨#[]⟩,.string ⟨#[]⟩,.string ⟨#[]⟩,.slice none 0 0,.bool false,.int .i64 0,.string ⟨#[]⟩,.string ⟨#[]⟩] 119):=⟨_,rfl⟩;rw [<- hx2];have hb2:Below x1.heap.size x1 x2:=by rw [hx2];exact bA
   have C8:Hid (Cl x2 x1.heap.size 119 z8):=by show Cl _ _ _ _;rw [hx2];exact cl_new x1 z8 119
   have Lall:Below w.heap.size w x2:=bT Lall0 hb2;have hsz1:=Lall0.size;have hlv2:=hI_ (hlv.below hb2);have HNBB:Hid (y.ls≠[]->∀ k,y.lv.ownBlock=some k->k≠x1.heap.size):=fun hne k e=>by
    obtain ⟨a',c',h1,h2,_⟩:=hlv;rcases h2 with h2 | ⟨b,off,h3,h4,_⟩
    · exact absurd h2 hne
    rw [h1,h3] at e;have e':b=k:=Option.some.inj e;omega
   clear hx2;clear hH;refine hK.out _ _ ?_ fun hH=>?_
   · exact ⟨(Lall.block _ C1.out.lt).trans C1.out,fun j v e=>(Lall.cell (p:=⟨g,i*8+j,none⟩) hg).trans (CR.out j v e)⟩
   clear hK K
   try simp only [qq]
   refine rq 8 fun K hK=>?_;refine st_stN rfl 119 _ _ rfl (B:=x1.heap.size) (j:=0) rfl (vs:=y.vs) rfl C8.out (by simp [z8,W8.vs]) (w8_one y (by obtain ⟨a',c',h1,_⟩:=hlv;rw [h1];rfl)) kr_ ?_;intro w4 hc4 ho4;clear hH;refine hK.out _ _ ?_ fun hH=>?_
   · exact ⟨((Lall.trans (ho4.below om_)).block _ C1.out.lt).trans C1.out,fun j v e=>((Lall.trans (ho4.below om_)).cell (p:=⟨g,i*8+j,none⟩) hg).trans (CR.out j v e)⟩
   clear hK K
   try simp only [qq]
   refine wpAnyH_done kr_ ?_ _;refine hKK _ _ _ _ _ _ _ _ y _ ?_ hc4 hst (LvAt.onB hlv2.out ho4 HNBB.out rfl rfl) ?_ ?_
   · omega
   · exact fun k e=>by rcases hnw k e with h | h;exact .inl h;exact .inr om_
   exact Lall.trans (ho4.below om_)
 go_simp;obtain ⟨x1,hx1⟩:∃ x:World,x=x0.alloc (.cells #[.string ⟨#[]⟩,.string ⟨#[]⟩,.string ⟨#[]⟩,.slice none 0 0,.bool false,.int .i64 0,.string ⟨#[]⟩,.string ⟨#[]⟩] 119):=⟨_,rfl⟩;rw [<- hx1];have hb1:Below x0.heap.size x0 x1:=by rw [hx1];exact bA
 have C80:Hid (Cl x1 x0.heap.size 119 z8):=by show Cl _ _ _ _;rw [hx1];exact cl_new x0 z8 119
 have L1:Below w.heap.size w x1:=L0.trans (hb1.mono om_);have hsz1:x0.heap.size<x1.heap.size:=C80.out.lt;clear hx1;clear hH;refine hK.out _ _ ?_ fun hH=>?_
 · exact ⟨(L1.block _ C1.out.lt).trans C1.out,fun j v e=>(L1.cell (p:=⟨g,i*8+j,none⟩) hg).trans (CR.out j v e)⟩
 clear hK K
 try simp only [qq]
 refine rq 6 fun K hK=>?_;go_simp;have hc26:=c98 E a cap fs ms hE (some ⟨g,0,none⟩) rc ws x x1 (G.T.files_below HAT.out L1) ht hp hlw (wys_below HWS.out L1) hwo.out hx.out (HLV.out.below L1);rw [<- hn.out] at hc26;refine hc26.mono ?_;rintro e x2 ⟨y,rfl,hst,hlv,hnw,hbx2⟩;go_simp;have Lall:Below w.heap.size w x2:=bT L1 hbx2;have C8:=hI_ (C80.out.below hbx2 C80.out.lt);have hlv2:=hI_ hlv;have HNBB:Hid (y.ls≠[]->∀ k,y.lv.ownBlock=some k->k≠x0.heap.size):=fun hne k e=>by
  rcases hnw k e with h | h
  · have:=HXB.out k h
    omega
  omega
 clear hH;refine hK.out _ _ ?_ fun hH=>?_
 · exact ⟨(Lall.block _ C1.out.lt).trans C1.out,fun j v e=>(Lall.cell (p:=⟨g,i*8+j,none⟩) hg).trans (CR.out j v e)⟩
 clear hK K
 try simp only [qq]
 refine rq 8 fun K hK=>?_;refine st_stN rfl 119 _ _ rfl (B:=x0.heap.size) (j:=0) rfl (vs:=y.vs) rfl C8.out (by simp [z8,W8.vs]) (w8_one y (by obtain ⟨a',c',h1,_⟩:=hlv;rw [h1];rfl)) kr_ ?_;intro w4 hc4 ho4;clear hH;refine hK.out _ _ ?_ fun hH=>?_
 · exact ⟨((Lall.trans (ho4.below om_)).block _ C1.out.lt).trans C1.out,fun j v e=>((Lall.trans (ho4.below om_)).cell (p:=⟨g,i*8+j,none⟩) hg).trans (CR.out j v e)⟩
 clear hK K
 try simp only [qq]
 refine wpAnyH_done kr_ ?_ _;refine hKK _ _ _ _ _ _ _ _ y _ ?_ hc4 hst (LvAt.onB hlv2.out ho4 HNBB.out rfl rfl) ?_ ?_
 · omega
 · exact fun k e=>by rcases hnw k e with h | h;exact .inl h;exact .inr om_
 exact Lall.trans (ho4.below om_)
theorem r14 (g b8 i n rc:Nat) (ag yo xo:Bool) (ya xa:Option Addr) (ly lx yc xc:Nat) (w:World) (u0 u1 u2 u4 u5 u9 u10 u11 u12 u13 u14 u15 u16 u17 u18 u19 u20 u21 u22 u23 u24 u25 u26 u27 u28 u29 u30 u31 u32 u33 u34 u35 u36 u37 u38 u39 u40 u41 u42 u43 u44 u45 u46 u47 u48 u49 u50 u51 u52 u53 u54 u55 u56 u57 u58 u59 u60 u61 u62 u63 u64 u65 u66 u67:Value) {Q:Exit->Act->World->Prop} (hQ:∀ c (a:Act) (d:Option Tmp) (v:Value) w,Q (.panic c) (a.put d v) w->Q (.panic c) a w)
 (hi:i<n) (h1:w.cell? ⟨b8,4,none⟩=some (.bool yo)) (h2:w.cell? ⟨b8,3,none⟩=some (.slice ya ly yc)) (h3:w.cell? ⟨g,i*8+4,none⟩=some (.bool xo)) (h4:w.cell? ⟨g,i*8+3,none⟩=some (.slice xa lx xc))
 (hKK:∀ (t40 t41 t42 t43 t44 t45 t46 t47 t48 t49 t50 t51 t52 t53 t54 t55 t56 t57 t58 t59 t60 t61 t62:Value) (w':World),Below w.heap.size w w'->Q .normal { tmps:=#[u0,u1,u2,.slice (some ⟨g,0,none⟩) n rc,u4,u5,.bool (ag || (yo !=xo) || (ly !=lx)),.int .i64 i,.pointer (some ⟨b8,0,none⟩),u9,u10,u11,u12,u13,u14,u15,u16,u17,u18,u19,u20,u21,u22,u23,u24,u25,u26,u27,u28,u29,u30,u31,u32,u33,u34,u35,u36,u37,u38,u39,t40,t41,t42,t43,t44,t45,t46,t47,t48,t49,t50,t51,t52,t53,t54,t55,t56,t57,t58,t59,t60,t61,t62,u63,u64,u65,u66,u67],defers:=[] } w'):
 (Code.region 14 #[⟨some 40,.move (.tmp 6),4, "l4_want.go:103",#[],none⟩,⟨some 41,.move (.tmp 40),4, "l4_want.go:103",#[⟨0,.data⟩],none⟩,⟨some 42,.fieldAddr 119 (.tmp 8) 2,0, "l4_want.go:103",#[⟨1,.guard⟩],some (1,false)⟩,⟨some 43,.load 4 (.tmp 42),4, "l4_want.go:103",#[⟨2,.data⟩,⟨1,.guard⟩],some (1,false)⟩,⟨some 44,.move (.tmp 3),116, "l4_want.go:103",#[⟨1,.guard⟩],some (1,false)⟩,⟨some 45,.move (.tmp 7),3, "l4_want.go:103",#[⟨1,.guard⟩],some (1,false)⟩,⟨some 46,.indexAddr 116 (.tmp 44) (.tmp 45),0, "l4_want.go:103",#[⟨4,.data⟩,⟨5,.data⟩,⟨1,.guard⟩],some (1,false)⟩,⟨some 47,.fieldAddr 119 (.tmp 46) 2,0, "l4_want.go:103",#[⟨6,.data⟩,⟨1,.guard⟩],some (1,false)⟩,⟨some 48,.load 4 (.tmp 47),4, "l4_want.go:103",#[⟨7,.data⟩,⟨1,.guard⟩],some (1,false)⟩,⟨some 49,.binOp .neq 4 (.tmp 43) (.tmp 48) 4,4, "l4_want.go:103",#[⟨3,.data⟩,⟨8,.data⟩,⟨1,.guard⟩],some (1,false)⟩,⟨some 50,.pick (.tmp 41) (.const (.bool true)) (.tmp 49),4, "l4_want.go:103",#[⟨1,.data⟩,⟨9,.data⟩],none⟩,⟨some 51,.move (.tmp 50),4, "l4_want.go:103",#[⟨10,.data⟩,⟨1,.chain⟩],none⟩,⟨some 52,.fieldAddr 119 (.tmp 8) 1,0, "l4_want.go:103",#[⟨11,.guard⟩],some (11,false)⟩,⟨some 53,.load 25 (.tmp 52),25, "l4_want.go:103",#[⟨12,.data⟩,⟨11,.guard⟩],some (11,false)⟩,⟨some 54,.call ⟨.builtin .len,#[.tmp 53],#[25]⟩,3, "l4_want.go:103",#[⟨13,.data⟩,⟨11,.guard⟩],some (11,false)⟩,⟨some 55,.move (.tmp 3),116, "l4_want.go:103",#[⟨11,.guard⟩],some (11,false)⟩,⟨some 56,.move (.tmp 7),3, "l4_want.go:103",#[⟨11,.guard⟩],some (11,false)⟩,⟨some 57,.indexAddr 116 (.tmp 55) (.tmp 56),0, "l4_want.go:103",#[⟨15,.data⟩,⟨16,.data⟩,⟨11,.guard⟩],some (11,false)⟩,⟨some 58,.fieldAddr 119 (.tmp 57) 1,0, "l4_want.go:103",#[⟨17,.data⟩,⟨11,.guard⟩],some (11,false)⟩,⟨some 59,.load 25 (.tmp 58),25, "l4_want.go:103",#[⟨18,.data⟩,⟨11,.guard⟩],some (11,false)⟩,⟨some 60,.call ⟨.builtin .len,#[.tmp 59],#[25]⟩,3, "l4_want.go:103",#[⟨19,.data⟩,⟨11,.guard⟩],some (11,false)⟩,⟨some 61,.binOp .neq 3 (.tmp 54) (.tmp 60) 3,4, "l4_want.go:103",#[⟨14,.data⟩,⟨20,.data⟩,⟨11,.guard⟩],some (11,false)⟩,⟨some 62,.pick (.tmp 51) (.const (.bool true)) (.tmp 61),4, "l4_want.go:103",#[⟨11,.data⟩,⟨21,.data⟩],none⟩,⟨some 6,.assign (.tmp 62),4, "l4_want.go:103",#[⟨22,.data⟩,⟨11,.chain⟩,⟨0,.phase⟩,⟨1,.phase⟩,⟨2,.phase⟩,⟨3,.phase⟩,⟨4,.phase⟩,⟨5,.phase⟩,⟨6,.phase⟩,⟨7,.phase⟩,⟨8,.phase⟩,⟨9,.phase⟩,⟨10,.phase⟩,⟨11,.phase⟩,⟨12,.phase⟩,⟨13,.phase⟩,⟨14,.phase⟩,⟨15,.phase⟩,⟨16,.phase⟩,⟨17,.phase⟩,⟨18,.phase⟩,⟨19,.phase⟩,⟨20,.phase⟩,⟨21,.phase⟩,⟨22,.phase⟩],none⟩] true).wp prog Q { tmps:=#[u0,u1,u2,.slice (some ⟨g,0,none⟩) n rc,u4,u5,.bool ag,.int .i64 i,.pointer (some ⟨b8,0,none⟩),u9,u10,u11,u12,u13,u14,u15,u16,u17,u18,u19,u20,u21,u22,u23,u24,u25,u26,u27,u28,u29,u30,u31,u32,u33,u34,u35,u36,u37,u38,u39,u40,u41,u42,u43,u44,u45,u46,u47,u48,u49,u50,u51,u52,u53,u54,u55,u56,u57,u58,u59,u60,u61,u62,u63,u64,u65,u66,u67],defers:=[] } w:=by
 have hi':(i:Int)<n:=om_;cases ag;rotate_left
 · rw [show (true || (yo !=xo) || (ly !=lx))=true by simp] at hKK
   refine wp_region_held_drew (S:=fun u=>u.cell? ⟨b8,4,none⟩=some (.bool yo)/\u.cell? ⟨b8,3,none⟩=some (.slice ya ly yc)/\u.cell? ⟨g,i*8+4,none⟩=some (.bool xo)/\u.cell? ⟨g,i*8+3,none⟩=some (.slice xa lx xc)) kr_ ?_ fun hH=>?_
   · exact ⟨h1,h2,h3,h4⟩
   refine tq 0 hH ?_;refine tq 1 hH ?_
   try simp only [qq]
   refine uq 2 hH ?_;refine uq 3 hH ?_
   try simp only [qq]
   refine uq 4 hH ?_;refine uq 5 hH ?_
   try simp only [qq]
   refine uq 6 hH ?_;refine uq 7 hH ?_
   try simp only [qq]
   refine uq 8 hH ?_;refine uq 9 hH ?_
   try simp only [qq]
   refine tq 10 hH ?_;refine tq 11 hH ?_
   try simp only [qq]
   refine uq 12 hH ?_;refine uq 13 hH ?_
   try simp only [qq]
   refine uq 14 hH ?_;refine uq 15 hH ?_
   try simp only [qq]
   refine uq 16 hH ?_;refine uq 17 hH ?_
   try simp only [qq]
   refine uq 18 hH ?_;refine uq 19 hH ?_
   try simp only [qq]
   refine uq 20 hH ?_;refine uq 21 hH ?_
   try simp only [qq]
   refine tq 22 hH ?_;refine tq 23 hH ?_
   try simp only [qq]
   refine wpAnyH_done kr_ ?_ _;exact hKK _ _ _ _ _ _ _ _ _ _ _ _ _ _ _ _ _ _ _ _ _ _ _ _ (Below.refl _ w).drew
 cases yo
 · cases xo
   rotate_left
   · refine wp_region_held_drew (S:=fun u=>u.cell? ⟨b8,4,none⟩=some (.bool false)/\u.cell? ⟨b8,3,none⟩=some (.slice ya ly yc)/\u.cell? ⟨g,i*8+4,none⟩=some (.bool true)/\u.cell? ⟨g,i*8+3,none⟩=some (.slice xa lx xc)) kr_ ?_ fun hH=>?_
     · exact ⟨h1,h2,h3,h4⟩
     refine tq 0 hH ?_;refine tq 1 hH ?_
     try simp only [qq]
     refine tq 2 hH ?_;refine tq 3 hH ?_ (v:=?_) (hv:=?e)
     case e=>intro wq hSw;(try dsimp only at hSw);obtain ⟨s1,s2,s3,s4⟩:=hSw;go_simp;try with_reducible rfl
     refine tq 4 hH ?_
     try simp only [qq]
     refine tq 5 hH ?_;refine tq 6 hH ?_
     try simp only [qq]
     refine tq 7 hH ?_;refine tq 8 hH ?_ (v:=?_) (hv:=?e)
     case e=>intro wq hSw;(try dsimp only at hSw);obtain ⟨s1,s2,s3,s4⟩:=hSw;go_simp;try with_reducible rfl
     refine tq 9 hH ?_
     try simp only [qq]
     refine tq 10 hH ?_;refine tq 11 hH ?_
     try simp only [qq]
     refine uq 12 hH ?_;refine uq 13 hH ?_
     try simp only [qq]
     refine uq 14 hH ?_;refine uq 15 hH ?_
     try simp only [qq]
     refine uq 16 hH ?_;refine uq 17 hH ?_
     try simp only [qq]
     refine uq 18 hH ?_;refine uq 19 hH ?_
     try simp only [qq]
     refine uq 20 hH ?_;refine uq 21 hH ?_
     try simp only [qq]
     refine tq 22 hH ?_;refine tq 23 hH ?_
     try simp only [qq]
     refine wpAnyH_done kr_ ?_ _;exact hKK _ _ _ _ _ _ _ _ _ _ _ _ _ _ _ _ _ _ _ _ _ _ _ _ (Below.refl _ w).drew
   by_cases hl:ly=lx
   · subst hl
     rw [show (false || (false !=false) || (ly !=ly))=false by simp] at hKK;refine wp_region_held_drew (S:=fun u=>u.cell? ⟨b8,4,none⟩=some (.bool false)/\u.cell? ⟨b8,3,none⟩=some (.slice ya ly yc)/\u.cell? ⟨g,i*8+4,none⟩=some (.bool false)/\u.cell? ⟨g,i*8+3,none⟩=some (.slice xa ly xc)) kr_ ?_ fun hH=>?_
     · exact ⟨h1,h2,h3,h4⟩
     refine tq 0 hH ?_;refine tq 1 hH ?_
     try simp only [qq]
     refine tq 2 hH ?_;refine tq 3 hH ?_ (v:=?_) (hv:=?e)
     case e=>intro wq hSw;(try dsimp only at hSw);obtain ⟨s1,s2,s3,s4⟩:=hSw;go_simp;try with_reducible rfl
     refine tq 4 hH ?_
     try simp only [qq]
     refine tq 5 hH ?_;refine tq 6 hH ?_
     try simp only [qq]
     refine tq 7 hH ?_;refine tq 8 hH ?_ (v:=?_) (hv:=?e)
     case e=>intro wq hSw;(try dsimp only at hSw);obtain ⟨s1,s2,s3,s4⟩:=hSw;go_simp;try with_reducible rfl
     refine tq 9 hH ?_
     try simp only [qq]
     refine tq 10 hH ?_;refine tq 11 hH ?_
     try simp only [qq]
     refine tq 12 hH ?_;refine tq 13 hH ?_ (v:=?_) (hv:=?e)
     case e=>intro wq hSw;(try dsimp only at hSw);obtain ⟨s1,s2,s3,s4⟩:=hSw;go_simp;try with_reducible rfl
     refine tq 14 hH ?_
     try simp only [qq]
     refine tq 15 hH ?_;refine tq 16 hH ?_
     try simp only [qq]
     refine tq 17 hH ?_;refine tq 18 hH ?_
     try simp only [qq]
     refine tq 19 hH ?_ (v:=?_) (hv:=?e)
     case e=>intro wq hSw;(try dsimp only at hSw);obtain ⟨s1,s2,s3,s4⟩:=hSw;go_simp;try with_reducible rfl
     refine tq 20 hH ?_
     try simp only [qq]
     refine tq 21 hH ?_;refine tq 22 hH ?_
     try simp only [qq]
     refine tq 23 hH ?_
     try simp only [qq]
     refine wpAnyH_done kr_ ?_ _;exact hKK _ _ _ _ _ _ _ _ _ _ _ _ _ _ _ _ _ _ _ _ _ _ _ _ (Below.refl _ w).drew
   have hl1:((ly:Int) !=(lx:Int))=true:=so_;rw [show (false || (false !=false) || (ly !=lx))=true by simp [hl]] at hKK;refine wp_region_held_drew (S:=fun u=>u.cell? ⟨b8,4,none⟩=some (.bool false)/\u.cell? ⟨b8,3,none⟩=some (.slice ya ly yc)/\u.cell? ⟨g,i*8+4,none⟩=some (.bool false)/\u.cell? ⟨g,i*8+3,none⟩=some (.slice xa lx xc)) kr_ ?_ fun hH=>?_
   · exact ⟨h1,h2,h3,h4⟩
   refine tq 0 hH ?_;refine tq 1 hH ?_
   try simp only [qq]
   refine tq 2 hH ?_;refine tq 3 hH ?_ (v:=?_) (hv:=?e)
   case e=>intro wq hSw;(try dsimp only at hSw);obtain ⟨s1,s2,s3,s4⟩:=hSw;go_simp;try with_reducible rfl
   refine tq 4 hH ?_
   try simp only [qq]
   refine tq 5 hH ?_;refine tq 6 hH ?_
   try simp only [qq]
   refine tq 7 hH ?_;refine tq 8 hH ?_ (v:=?_) (hv:=?e)
   case e=>intro wq hSw;(try dsimp only at hSw);obtain ⟨s1,s2,s3,s4⟩:=hSw;go_simp;try with_reducible rfl
   refine tq 9 hH ?_
   try simp only [qq]
   refine tq 10 hH ?_;refine tq 11 hH ?_
   try simp only [qq]
   refine tq 12 hH ?_;refine tq 13 hH ?_ (v:=?_) (hv:=?e)
   case e=>intro wq hSw;(try dsimp only at hSw);obtain ⟨s1,s2,s3,s4⟩:=hSw;go_simp;try with_reducible rfl
   refine tq 14 hH ?_
   try simp only [qq]
   refine tq 15 hH ?_;refine tq 16 hH ?_
   try simp only [qq]
   refine tq 17 hH ?_;refine tq 18 hH ?_
   try simp only [qq]
   refine tq 19 hH ?_ (v:=?_) (hv:=?e)
   case e=>intro wq hSw;(try dsimp only at hSw);obtain ⟨s1,s2,s3,s4⟩:=hSw;go_simp;try with_reducible rfl
   refine tq 20 hH ?_
   try simp only [qq]
   refine tq 21 hH ?_;refine tq 22 hH ?_
   try simp only [qq]
   refine tq 23 hH ?_
   try simp only [qq]
   refine wpAnyH_done kr_ ?_ _;exact hKK _ _ _ _ _ _ _ _ _ _ _ _ _ _ _ _ _ _ _ _ _ _ _ _ (Below.refl _ w).drew
 cases xo
 · refine wp_region_held_drew (S:=fun u=>u.cell? ⟨b8,4,none⟩=some (.bool true)/\u.cell? ⟨b8,3,none⟩=some (.slice ya ly yc)/\u.cell? ⟨g,i*8+4,none⟩=some (.bool false)/\u.cell? ⟨g,i*8+3,none⟩=some (.slice xa lx xc)) kr_ ?_ fun hH=>?_
   · exact ⟨h1,h2,h3,h4⟩
   refine tq 0 hH ?_;refine tq 1 hH ?_
   try simp only [qq]
   refine tq 2 hH ?_;refine tq 3 hH ?_ (v:=?_) (hv:=?e)
   case e=>intro wq hSw;(try dsimp only at hSw);obtain ⟨s1,s2,s3,s4⟩:=hSw;go_simp;try with_reducible rfl
   refine tq 4 hH ?_
   try simp only [qq]
   refine tq 5 hH ?_;refine tq 6 hH ?_
   try simp only [qq]
   refine tq 7 hH ?_;refine tq 8 hH ?_ (v:=?_) (hv:=?e)
   case e=>intro wq hSw;(try dsimp only at hSw);obtain ⟨s1,s2,s3,s4⟩:=hSw;go_simp;try with_reducible rfl
   refine tq 9 hH ?_
   try simp only [qq]
   refine tq 10 hH ?_;refine tq 11 hH ?_
   try simp only [qq]
   refine uq 12 hH ?_;refine uq 13 hH ?_
   try simp only [qq]
   refine uq 14 hH ?_;refine uq 15 hH ?_
   try simp only [qq]
   refine uq 16 hH ?_;refine uq 17 hH ?_
   try simp only [qq]
   refine uq 18 hH ?_;refine uq 19 hH ?_
   try simp only [qq]
   refine uq 20 hH ?_;refine uq 21 hH ?_
   try simp only [qq]
   refine tq 22 hH ?_;refine tq 23 hH ?_
   try simp only [qq]
   refine wpAnyH_done kr_ ?_ _;exact hKK _ _ _ _ _ _ _ _ _ _ _ _ _ _ _ _ _ _ _ _ _ _ _ _ (Below.refl _ w).drew
 by_cases hl:ly=lx
 · subst hl
   rw [show (false || (true !=true) || (ly !=ly))=false by simp] at hKK;refine wp_region_held_drew (S:=fun u=>u.cell? ⟨b8,4,none⟩=some (.bool true)/\u.cell? ⟨b8,3,none⟩=some (.slice ya ly yc)/\u.cell? ⟨g,i*8+4,none⟩=some (.bool true)/\u.cell? ⟨g,i*8+3,none⟩=some (.slice xa ly xc)) kr_ ?_ fun hH=>?_
   · exact ⟨h1,h2,h3,h4⟩
   refine tq 0 hH ?_;refine tq 1 hH ?_
   try simp only [qq]
   refine tq 2 hH ?_;refine tq 3 hH ?_ (v:=?_) (hv:=?e)
   case e=>intro wq hSw;(try dsimp only at hSw);obtain ⟨s1,s2,s3,s4⟩:=hSw;go_simp;try with_reducible rfl
   refine tq 4 hH ?_
   try simp only [qq]
   refine tq 5 hH ?_;refine tq 6 hH ?_
   try simp only [qq]
   refine tq 7 hH ?_;refine tq 8 hH ?_ (v:=?_) (hv:=?e)
   case e=>intro wq hSw;(try dsimp only at hSw);obtain ⟨s1,s2,s3,s4⟩:=hSw;go_simp;try with_reducible rfl
   refine tq 9 hH ?_
   try simp only [qq]
   refine tq 10 hH ?_;refine tq 11 hH ?_
   try simp only [qq]
   refine tq 12 hH ?_;refine tq 13 hH ?_ (v:=?_) (hv:=?e)
   case e=>intro wq hSw;(try dsimp only at hSw);obtain ⟨s1,s2,s3,s4⟩:=hSw;go_simp;try with_reducible rfl
   refine tq 14 hH ?_
   try simp only [qq]
   refine tq 15 hH ?_;refine tq 16 hH ?_
   try simp only [qq]
   refine tq 17 hH ?_;refine tq 18 hH ?_
   try simp only [qq]
   refine tq 19 hH ?_ (v:=?_) (hv:=?e)
   case e=>intro wq hSw;(try dsimp only at hSw);obtain ⟨s1,s2,s3,s4⟩:=hSw;go_simp;try with_reducible rfl
   refine tq 20 hH ?_
   try simp only [qq]
   refine tq 21 hH ?_;refine tq 22 hH ?_
   try simp only [qq]
   refine tq 23 hH ?_
   try simp only [qq]
   refine wpAnyH_done kr_ ?_ _;exact hKK _ _ _ _ _ _ _ _ _ _ _ _ _ _ _ _ _ _ _ _ _ _ _ _ (Below.refl _ w).drew
 have hl1:((ly:Int) !=(lx:Int))=true:=so_;rw [show (false || (true !=true) || (ly !=lx))=true by simp [hl]] at hKK;refine wp_region_held_drew (S:=fun u=>u.cell? ⟨b8,4,none⟩=some (.bool true)/\u.cell? ⟨b8,3,none⟩=some (.slice ya ly yc)/\u.cell? ⟨g,i*8+4,none⟩=some (.bool true)/\u.cell? ⟨g,i*8+3,none⟩=some (.slice xa lx xc)) kr_ ?_ fun hH=>?_
 · exact ⟨h1,h2,h3,h4⟩
 refine tq 0 hH ?_;refine tq 1 hH ?_
 try simp only [qq]
 refine tq 2 hH ?_;refine tq 3 hH ?_ (v:=?_) (hv:=?e)
 case e=>intro wq hSw;(try dsimp only at hSw);obtain ⟨s1,s2,s3,s4⟩:=hSw;go_simp;try with_reducible rfl
 refine tq 4 hH ?_
 try simp only [qq]
 refine tq 5 hH ?_;refine tq 6 hH ?_
 try simp only [qq]
 refine tq 7 hH ?_;refine tq 8 hH ?_ (v:=?_) (hv:=?e)
 case e=>intro wq hSw;(try dsimp only at hSw);obtain ⟨s1,s2,s3,s4⟩:=hSw;go_simp;try with_reducible rfl
 refine tq 9 hH ?_
 try simp only [qq]
 refine tq 10 hH ?_;refine tq 11 hH ?_
 try simp only [qq]
 refine tq 12 hH ?_;refine tq 13 hH ?_ (v:=?_) (hv:=?e)
 case e=>intro wq hSw;(try dsimp only at hSw);obtain ⟨s1,s2,s3,s4⟩:=hSw;go_simp;try with_reducible rfl
 refine tq 14 hH ?_
 try simp only [qq]
 refine tq 15 hH ?_;refine tq 16 hH ?_
 try simp only [qq]
 refine tq 17 hH ?_;refine tq 18 hH ?_
 try simp only [qq]
 refine tq 19 hH ?_ (v:=?_) (hv:=?e)
 case e=>intro wq hSw;(try dsimp only at hSw);obtain ⟨s1,s2,s3,s4⟩:=hSw;go_simp;try with_reducible rfl
 refine tq 20 hH ?_
 try simp only [qq]
 refine tq 21 hH ?_;refine tq 22 hH ?_
 try simp only [qq]
 refine tq 23 hH ?_
 try simp only [qq]
 refine wpAnyH_done kr_ ?_ _;exact hKK _ _ _ _ _ _ _ _ _ _ _ _ _ _ _ _ _ _ _ _ _ _ _ _ (Below.refl _ w).drew
def wz (m:M3):W8:=⟨toM m,.slice none 0 0,[],false,0,⟨#[]⟩,⟨#[]⟩⟩
structure A14 (E:Env) (w:World) (tv v:Value) (ws:List W8) (wr:World):Prop where
 t1:Cl wr w.heap.size 51 [tv]
 row:wr.ownsRow w.heap.size 119 8 v ws.length (wysCells ws)
 ok:∀ i,i<ws.length->WOk E (ws.getD i w8z)
 lv:∀ i,i<ws.length->LvAt wr (ws.getD i w8z)
 nb:∀ i,i<ws.length->∀ k,(ws.getD i w8z).lv.ownBlock=some k->v.ownBlock≠some k
 bl:Below w.heap.size w wr
theorem A14.below (h:A14 E w tv v ws wr) (hb:Below wr.heap.size wr u):A14 E w tv v ws u:=
 ⟨h.t1.below hb h.t1.lt,ownsRow_below h.row hb,h.ok,fun i hi=>(h.lv i hi).below hb,h.nb,h.bl.trans (hb.mono h.bl.size)⟩
theorem wz_ok (h:toM m∈E.ms):WOk E (wz m):=⟨h,.nil _,(fun h=>by cases h),fun h=>by cases h⟩
theorem wz_lv (w:World) (m:M3):LvAt w (wz m):=⟨none,0,rfl,.inl rfl,(fun k e=>by cases e),Nat.le_refl _⟩
theorem wz_ls (l:List M3) (i:Nat):((l.map wz).getD i w8z).ls=[]/\((l.map wz).getD i w8z).lv.ownBlock=none:=by
 rw [List.getD_eq_getElem?_getD,List.getElem?_map];cases l[i]? <;> exact ⟨rfl,rfl⟩
theorem getD_snoc {α:Type} (l:List α) (x d:α) (i:Nat) (h:i<(l++[x]).length):(i<l.length/\(l++[x]).getD i d=l.getD i d)\/(i=l.length/\(l++[x]).getD i d=x):=by
 rcases Nat.lt_or_ge i l.length with h1 | h1
 · exact .inl ⟨h1,by simp [List.getD,List.getElem?_append_left h1]⟩
 have:i=l.length:=by simp at h;omega
 subst this;exact .inr ⟨rfl,by simp [List.getD]⟩
theorem take_get (h:k<ms.length):ms.take (k+1)=ms.take k++[ms.getD k m3z]:=by
 rw [List.take_succ_eq_append_getElem h];simp [List.getD,List.getElem?_eq_getElem h]
theorem A14.snoc {v':Value} (h:A14 E w tv v ws wr) (hm:toM m∈E.ms) (hu:Below wr.heap.size wr u) (hg:u.grownBy u' v.ownBlock) (hr:u'.ownsRow w.heap.size 119 8 v' (ws.length+1) (wysCells ws++(wz m).vs)) (hn:∀ i,i<ws.length->(ws.getD i w8z).ls=[]/\(ws.getD i w8z).lv.ownBlock=none):A14 E w tv v' (ws++[wz m]) u':=by
 have hge:∀ k,v.ownBlock=some k->w.heap.size<=k:=fun k e=>(h.row.lt k e).1;have hget:∀ i,i<(ws++[wz m]).length->(((ws++[wz m]).getD i w8z).ls=[]/\((ws++[wz m]).getD i w8z).lv.ownBlock=none)/\WOk E ((ws++[wz m]).getD i w8z)/\∀ u:World,Below wr.heap.size wr u->LvAt u ((ws++[wz m]).getD i w8z):=fun i hi=>by
  rcases getD_snoc ws (wz m) w8z i hi with ⟨h1,e⟩ | ⟨_,e⟩
  · rw [e];exact ⟨hn i h1,h.ok i h1,fun u hb=>(h.lv i h1).below hb⟩
  rw [e];exact ⟨⟨rfl,rfl⟩,wz_ok hm,fun u _=>wz_lv u m⟩
 refine ⟨?_,by rw [wysCells_snoc,List.length_append];exact hr,fun i hi=>(hget i hi).2.1,fun i hi=>?_,(fun i hi k e=>by rw [(hget i hi).1.2] at e;cases e),?_⟩
 · have h1:=h.t1.below hu h.t1.lt
   refine (hg.block _ h1.lt (fun e=>?_)).trans h1;rcases h.row.2 with ⟨hv,_⟩ | ⟨g,cap,cur,hv,_,hh,_⟩
   · rw [hv] at e;cases e
   rw [hv] at e;have e:w.heap.size=g:=Option.some.inj e;subst e;have h2:=h.t1;unfold Cl at h2;rw [hh] at h2;injection h2 with h2;injection h2 with _ h2;cases h2
 · obtain ⟨a',c',h1,h2,h3⟩:=(hget i hi).2.2 u hu
   exact ⟨a',c',h1,.inl (hget i hi).1.1,(fun k e=>by rw [(hget i hi).1.2] at e;cases e),h3.2⟩
 exact h.bl.trans ((hu.mono h.bl.size).trans ⟨hg.os,hg.tape,hg.output,hg.size,fun k hk=>hg.block k (by have:=h.bl.size;have:=hu.size;omega) (fun e=>by have:=hge k e.symm;omega)⟩)
def key (y:W8):M3×List M.L4×Bool:=(y.m,y.ls,y.ov)
def pw (y:W8):Nat:=16 - y.ls.length+(if y.ov then 0 else 1)
def pot (ws:List W8):Nat:=(ws.map pw).sum
theorem pot_set (ws:List W8) (i:Nat) (y:W8) (h:i<ws.length):pot (ws.set i y)+pw (ws.getD i w8z)=pot ws+pw y:=by
 induction ws generalizing i with
 | nil=>simp at h
 | cons x r ih=>
  cases i with
  | zero=>simp [pot];omega
  | succ i=>
   have:=ih i (by simpa using h);simp [pot] at this ⊢;omega
theorem kn_same {fs:List F2} {ws':List W8} (h:ws.map key=ws'.map key) (n:ByteArray):(knW fs ms ws n).2=(knW fs ms ws' n).2:=by
 have hf:∀ l:List W8,(fndW l n).map key=(l.map key).find? fun q=>decide (q.1.nm=n):=fun l=>by
  rw [List.find?_map];rfl
 have e:(fndW ws n).map key=(fndW ws' n).map key:=by rw [hf,hf,h]
 unfold knW
 cases plF fs ms n with
 | some p=>rfl
 | none=>
  cases h1:fndW ws n <;> cases h2:fndW ws' n <;> rw [h1,h2] at e <;> simp [key] at e ⊢
  exact e.2.2
theorem step_pw {kn:ByteArray->R2×Bool} {x:W8} (h:StepTo E kn x y) (hy:y.ls.length<=15):pw y<=pw x/\(((y.ov !=x.ov) || (y.ls.length !=x.ls.length))=true->pw y<pw x)/\(((y.ov !=x.ov) || (y.ls.length !=x.ls.length))=false->key y=key x):=by
 have hl:=h.pre.length_le;cases hx:x.ov
 · cases hyo:y.ov
   · refine ⟨by simp [pw,hx,hyo];omega,fun c=>?_,fun c=>?_⟩
     · simp at c
       simp [pw,hx,hyo];omega
     simp at c;have:x.ls=y.ls:=h.pre.eq_of_length c.symm;simp [key,h.m,this,hx,hyo]
   exact ⟨by simp [pw,hx,hyo];omega,fun _=>by simp [pw,hx,hyo];omega,fun c=>by simp at c⟩
 have:=h.ovd hx;subst this;exact ⟨Nat.le_refl _,fun c=>by simp [hx] at c,fun _=>rfl⟩
def Blk (fs:List F2) (ms:List M3) (ws:List W8) (y:W8):Prop:=y.ov=false->(tn y.m y.ls).over=false/\(tn y.m y.ls).has=false/\(knW fs ms ws (tn y.m y.ls).name).2=false/\y.wt=(tn y.m y.ls).name
theorem set_getD (hi:i<ws.length):(ws.set i y).getD j w8z=if i=j then y else ws.getD j w8z:=by
 simp only [List.getD_eq_getElem?_getD,List.getElem?_set];by_cases h:i=j
 · subst h;simp [hi]
 simp [h]
theorem key_set (h:key y=key (ws.getD i w8z)):(ws.set i y).map key=ws.map key:=by
 apply List.ext_getElem?;intro j;rw [List.getElem?_map,List.getElem?_map,List.getElem?_set];by_cases hj:i=j
 · subst hj
   by_cases hl:i<ws.length
   · rw [if_pos rfl,if_pos hl,List.getElem?_eq_getElem hl]
     rw [List.getD_eq_getElem?_getD,List.getElem?_eq_getElem hl] at h;simp at h ⊢;exact h
   rw [if_pos rfl,if_neg hl,List.getElem?_eq_none om_]
 rw [if_neg hj]
theorem A14.set {g rc:Nat} (h:A14 E w tv (.slice (some ⟨g,0,none⟩) n rc) ws u) (hn:n=ws.length) (hi:i<n) (hc:Cl u g 119 xs) (hc':Cl u' g 119 (putL xs (i*8) y.vs)) (ho:OnB g u u') (hy:WOk E y) (hl:LvAt u y) (hb:∀ k,y.lv.ownBlock=some k->k≠g):A14 E w tv (.slice (some ⟨g,0,none⟩) n rc) (ws.set i y) u':=by
 have hg:w.heap.size<=g:=(h.row.lt g rfl).1;have hgt:∀ j,(ws.set i y).getD j w8z=if i=j then y else ws.getD j w8z:=fun j=>set_getD om_;have hr:=h.row;rw [<- hn] at hr;refine ⟨h.t1.on ho ((h.t1.ne hc dc_)),by rw [List.length_set,<- hn];exact row_set hr hn hi y hc hc',fun j hj=>?_,fun j hj=>?_,fun j hj k e=>?_,h.bl.trans (ho.below hg)⟩
 · rw [hgt]
   split
   · exact hy
   exact h.ok j (by simpa using hj)
 · rw [hgt]
   split
   · exact hl.onB ho (fun _ k e=>hb k e) rfl rfl
   refine (h.lv j (by simpa using hj)).onB ho (fun _ k e=>?_) rfl rfl;have:=h.nb j (by simpa using hj) k e;simpa [Value.ownBlock,eq_comm] using this
 rw [hgt] at e;split at e
 · have:=hb k e
   simpa [Value.ownBlock,eq_comm] using this
 exact h.nb j (by simpa using hj) k e
theorem c75 (E:Env) (a:Option Addr) (cap:Nat) (fs:List F2) (ms:List M3) (hE:E=envOf fs ms) (w:World) (hat:FilesAt w a fs) (ht:treeOk fs) (hp:IsPT fs ms):
 Calls prog 75 #[.agg #[.slice a fs.length cap]] w fun e w'=>∃ (v:Value) (ws:List W8),e=.returned v/\A14 E w (.slice a fs.length cap) v ws w'/\ws.map (·.m)=ms.map toM/\(∀ i,i<ws.length->Blk fs ms ws (ws.getD i w8z)):=by
 have HAT:=hI_ hat;have HT:=hI_ ht;have HP:=hI_ hp;have HE:=hI_ hE;have HEE:Hid (EnvOk E):=by unfold Hid;rw [hE];exact envOk ht hp
 have hfl:fs.length<=1048576:=by have:=ht.1;omega
 have HF:=hI_ (tree_le ht);have hml:=isPT_30 hp;have HMM:Hid (∀ k,k<ms.length->toM (ms.getD k m3z)∈E.ms):=fun k hk=>by rw [hE];exact mem_toM.2 ⟨k,hk,rfl⟩
 clear hat ht hp hE;go_enter func75,ntmps75
 go_wp2_with fail
 obtain ⟨w0,hw0⟩:∃ u:World,u=(w.alloc (.cells #[.slice a fs.length cap] 51)).alloc (.cells #[] 119):=⟨_,rfl⟩;rw [<- hw0];have hb0:Below w.heap.size w w0:=by rw [hw0];exact bA.alloc sm_ _
 have H0:Hid (A14 E w (.slice a fs.length cap) (.slice (some ⟨w.heap.size+1,0,none⟩) 0 0) [] w0):=by
  refine ⟨?_,?_,fun i h=>absurd h (Nat.not_lt_zero _),fun i h=>absurd h (Nat.not_lt_zero _),fun i h=>absurd h (Nat.not_lt_zero _),hb0⟩
  · rw [hw0];exact cl_old (cl_new w [.slice a fs.length cap] 51) _
  rw [hw0];have:=World.ownsRow_made (base:=w.heap.size) (e:=119) (size:=8) (w.alloc (.cells #[.slice a fs.length cap] 51)) #[] 0 sm_ (Nat.zero_le _) rfl;simp only [World.size_alloc] at this;exact this
 clear hw0;refine (G.c97 a cap fs w0 hfl HF.out (G.T.files_below HAT.out hb0)).mono ?_;rintro e w1 ⟨⟨ms',ma,mc,rfl,hmk,hpt⟩,hb1⟩;obtain rfl:=G.isPT_one HP.out hpt;have H1:=hI_ (H0.out.below hb1);have HMK:=hI_ hmk;have hB1:Below w.heap.size w w1:=H1.out.bl;clear hmk hpt hb1 H0 hb0
 go_wp2_with fail
 have HEX1:Hid (∀ j,w1.cell? ⟨w.heap.size+1,j,none⟩=none):=fun j=>by
  rcases H1.out.row.2 with ⟨hv,_⟩ | ⟨g,cap',cur,hv,_,hh,_,_,hs,_⟩
  · cases hv
  injection hv with hv _ hc;injection hv with hv;injection hv with hv _ _;subst hv hc;rw [Lib.cell_of_heap hh,Array.getElem?_eq_none om_]
 go_loopw [3,5] (fun v3 v5 wr=>∃ k:Nat,k<=ms.length/\v5=.int .i64 k/\Hid (A14 E w (.slice a fs.length cap) v3 ((ms.take k).map wz) wr)/\Hid (Ex (fun k=>k=w.heap.size+1) w1 wr)/\Hid (v3.ownBlock=some (w.heap.size+1)\/∀ k,v3.ownBlock=some k->w1.heap.size<=k)) (fun _ v5 _=>ms.length - (intOf v5).toNat)
 case atStart=>exact ⟨0,Nat.zero_le _,rfl,H1.out,Ex.refl _ _,.inl rfl⟩
 obtain ⟨k,hk,rfl,HA,HXX,HVB⟩:=hrel;have hlen:((ms.take k).map wz).length=k:=so_;by_cases hlt:k<ms.length
 · rcases HMK.out with h0 | ⟨mb,mo,ha,hmb,hmc⟩
   · rw [h0] at hlt;exact absurd hlt (Nat.not_lt_zero _)
   subst ha;have hne:mb≠w.heap.size+1:=fun e=>by
    have:=(hmc k hlt).1;rw [e,HEX1.out] at this;cases this
   have cc:∀ j,wr.cell? ⟨mb,j,none⟩=w1.cell? ⟨mb,j,none⟩:=fun j=>World.cell?_of_block (HXX.out.block mb hmb hne);have g0:=(cc _).trans (hmc k hlt).1;have g1:=(cc _).trans (hmc k hlt).2.1;have g2:=(cc _).trans (hmc k hlt).2.2;have HMK':=hI_ (HMM.out k hlt);have HTK:Hid ((ms.take (k+1)).map wz=(ms.take k).map wz++[wz (ms.getD k m3z)]):=by show _=_;rw [take_get hlt,List.map_append];rfl
   generalize ms.getD k m3z=m at*;have HROW:Hid ((wr.alloc (.cells #[.string m.nm,.string m.tl,.string m.ar,.slice none 0 0,.bool false,.int .i64 0,.string ⟨#[]⟩,.string ⟨#[]⟩] 119)).ownsRow w.heap.size 119 8 u3 k (wysCells ((ms.take k).map wz))):=hI_ (by have:=HA.out.row;rw [hlen] at this;exact this.alloc _);have HSRC:Hid (Src (wr.alloc (.cells #[.string m.nm,.string m.tl,.string m.ar,.slice none 0 0,.bool false,.int .i64 0,.string ⟨#[]⟩,.string ⟨#[]⟩] 119)) (.slice (some ⟨wr.heap.size,0,none⟩) 1 1) 8 1 (wz m).vs):=hI_ (.inr ⟨⟨wr.heap.size,0,none⟩,1,rfl,rfl,cl_row (cl_new wr (wz m).vs 119)⟩);have H1C:Hid (∀ v∈(wz m).vs,v.oneCell'=true):=hI_ (w8_one (wz m) rfl);have hba:w.heap.size<=(wr.alloc (.cells #[.string m.nm,.string m.tl,.string m.ar,.slice none 0 0,.bool false,.int .i64 0,.string ⟨#[]⟩,.string ⟨#[]⟩] 119)).heap.size:=by have:=HA.out.bl.size;simp;omega
   clear hmc cc
   go_wp2_with (refine wl_app rfl _ _ 116 rfl w.heap.size 119 8 underlying116 inf119 dc_ u3 k _ rfl HROW.out (.slice (some ⟨wr.heap.size,0,none⟩) 1 1) 1 (wz m).vs rfl HSRC.out H1C.out om_ hba ?_;intro v' w2 O2 gr2 at2;have HO2:=hI_ O2;have HG2:=hI_ gr2;have HA2:=hI_ at2;clear O2 gr2 at2)
   have hal:Below wr.heap.size wr (wr.alloc (.cells #[.string m.nm,.string m.tl,.string m.ar,.slice none 0 0,.bool false,.int .i64 0,.string ⟨#[]⟩,.string ⟨#[]⟩] 119)):=bA;have HS2:Hid (A14 E w (.slice a fs.length cap) v' ((ms.take (k+1)).map wz) w2):=by
    show A14 _ _ _ _ _ _;rw [HTK.out];exact HA.out.snoc HMK'.out hal HG2.out (by rw [hlen];exact HO2.out) (fun i _=>wz_ls _ _)
   have HX2:Hid (Ex (fun k=>k=w.heap.size+1) w1 w2):=by
    have hsz:=HXX.out.size;refine ⟨HG2.out.os.trans HXX.out.os,HG2.out.tape.trans HXX.out.tape,HG2.out.output.trans HXX.out.output,Nat.le_trans hsz (Nat.le_trans hal.size HG2.out.size),fun q hq hne=>?_⟩;refine (HG2.out.block q so_ (fun e=>?_)).trans ((hal.block q om_).trans (HXX.out.block q hq hne));rcases HVB.out with h | h
    · rw [h] at e;exact hne (Option.some.inj e)
    have:=h q e.symm;omega
   have HV2:Hid (v'.ownBlock=some (w.heap.size+1)\/∀ k,v'.ownBlock=some k->w1.heap.size<=k):=by
    have hsz:=HXX.out.size;rcases HA2.out with h | h
    · rcases HVB.out with h' | h'
      · exact .inl (h.trans h')
      exact .inr (fun q e=>h' q (h.symm.trans e))
    refine .inr fun q e=>?_;rw [h] at e;have e:=Option.some.inj e;simp at e;omega
   clear HROW HSRC;go_roundw
   case rel=>exact ⟨k+1,om_,by go_num,HS2.out,HX2.out,HV2.out⟩
   case measure=>simp [intOf];omega
 obtain rfl:k=ms.length:=om_;have HA0:Hid (A14 E w (.slice a fs.length cap) u3 (ms.map wz) wr):=by have:=HA.out;rw [List.take_length] at this;exact this
 obtain ⟨ra,rc,hra0,_⟩:=row_wys HA0.out.row;have hra:u3=.slice ra ms.length rc:=by rw [hra0];simp
 clear hra0;subst hra;clear HA HXX HVB HMK HEX1 H1 hlen
 go_wp2_with fail
 go_loopg [6] (pot (ms.map wz)+1) (fun n v6 wr=>∃ (ag:Bool) (ws:List W8),v6=.bool ag/\Hid (A14 E w (.slice a fs.length cap) (.slice ra ms.length rc) ws wr)/\Hid (ws.map (·.m)=ms.map toM)/\Hid (ws.length=ms.length)/\Hid (ag=true->pot ws+1<=n)/\Hid (ag=false->∀ i,i<ws.length->Blk fs ms ws (ws.getD i w8z)))
 case atStart=>exact ⟨true,ms.map wz,rfl,HA0.out,hI_ (by simp [Function.comp_def,wz]),hI_ sm_,fun _=>Nat.le_refl _,(fun h=>by cases h)⟩
 obtain ⟨ag,ws,rfl,HA,HM,HN,HP1,HP2⟩:=hrel;cases ag
 · have HR:=hI_ (HP2.out rfl)
   clear HP1 HP2;go_wp2;go_ret;exact ⟨_,ws,rfl,HA.out,HM.out,HR.out⟩
 go_wp2_with fail
 go_loopw [6,7] (fun v6 v7 wr=>∃ (i:Nat) (ag:Bool) (ws':List W8),v6=.bool ag/\v7=.int .i64 i/\i<=ms.length/\Hid (A14 E w (.slice a fs.length cap) (.slice ra ms.length rc) ws' wr)/\Hid (ws'.map (·.m)=ms.map toM)/\Hid (ws'.length=ms.length)/\Hid (pot ws'<=pot ws)/\Hid (ag=true->pot ws'<pot ws)/\Hid (ag=false->ws'.map key=ws.map key/\∀ j,j<i->Blk fs ms ws (ws'.getD j w8z))) (fun _ v7 _=>ms.length - (intOf v7).toNat)
 case atStart=>exact ⟨0,false,ws,rfl,rfl,Nat.zero_le _,HA.out,HM.out,HN.out,Nat.le_refl _,(fun h=>by cases h),fun _=>⟨rfl,fun j h=>absurd h (Nat.not_lt_zero _)⟩⟩
 obtain ⟨i,ag,ws',rfl,rfl,hi,HA1,HM1,HN1,HQ0,HQ1,HQ2⟩:=hrel;by_cases hlt:i<ms.length;rotate_left
 · obtain rfl:i=ms.length:=om_
   have hgk:=HP1.out (by trivial);go_wp2;cases ag
   · go_roundg 0
     case measure=>omega
     case rel=>exact ⟨false,ws',rfl,HA1.out,HM1.out,HN1.out,(fun h=>by cases h),fun _ j hj=>by
      obtain ⟨q1,q2⟩:=HQ2.out rfl;intro ho;obtain ⟨p1,p2,p3⟩:=q2 j (by rw [<- HN1.out];exact hj) ho;exact ⟨p1,p2,by rw [kn_same q1];exact p3⟩⟩
   have:=HQ1.out rfl
   go_roundg (pot ws'+1)
   case measure=>omega
   case rel=>exact ⟨true,ws',rfl,HA1.out,HM1.out,HN1.out,fun _=>Nat.le_refl _,(fun h=>by cases h)⟩
 have hlt':i<ws'.length:=by rw [HN1.out];exact hlt
 have HROW:=HA1.out.row;rcases HROW.2 with ⟨_,h0⟩ | ⟨g,cap',cur,hv,hgb,hh,_⟩
 · omega
 obtain rfl:ra=some ⟨g,0,none⟩:=by injection hv
 obtain ⟨ra',rc',hrv,HWS⟩:=row_wys HROW;obtain rfl:some ⟨g,0,none⟩=ra':=by injection hrv
 have HWS:=hI_ HWS;have hx:=hI_ (HA1.out.ok i hlt');have HLV:=hI_ (HA1.out.lv i hlt');have HXN:=hI_ (HA1.out.nb i hlt');have HGT:Hid (∀ y,(ws'.set i y).getD i w8z=y):=fun y=>by rw [set_getD hlt'];simp
 have HCELL:Hid (∀ u,Below wr.heap.size wr u->∀ j v,(ws'.getD i w8z).vs[j]?=some v->u.cell? ⟨g,i*8+j,none⟩=some v):=fun u hb j v e=>by
  rcases HWS.out with h0 | ⟨b,off,hab,hbl,hc⟩
  · rw [h0] at hlt';exact absurd hlt' (Nat.not_lt_zero _)
  injection hab with hab;injection hab with h1 h2;subst h1 h2;have:=hc i hlt' j v e;rw [Nat.zero_add] at this;exact (hb.cell (p:=⟨g,i*8+j,none⟩) hbl).trans this
 have HGJ:Hid (∀ y j,i≠j->(ws'.set i y).getD j w8z=ws'.getD j w8z):=fun y j h=>by rw [set_getD hlt',if_neg h]
 have HPS:Hid (∀ y,pot (ws'.set i y)+pw (ws'.getD i w8z)=pot ws'+pw y):=fun y=>pot_set ws' i y hlt';have HKS:Hid (∀ y,key y=key (ws'.getD i w8z)->(ws'.set i y).map key=ws'.map key):=fun y h=>key_set h;have HMS:Hid (∀ y,y.m=(ws'.getD i w8z).m->(ws'.set i y).map (·.m)=ws'.map (·.m)):=fun y h=>by
  apply List.ext_getElem?;intro j;rw [List.getElem?_map,List.getElem?_map,List.getElem?_set];by_cases hj:i=j
  · subst hj
    rw [if_pos rfl,if_pos hlt',List.getElem?_eq_getElem hlt'];rw [List.getD_eq_getElem?_getD,List.getElem?_eq_getElem hlt'] at h;simpa using h
  rw [if_neg hj]
 have hgw:g<wr.heap.size:=blk_lt hh;have C1:=hI_ HA1.out.t1;obtain ⟨xa,xc,hxl,_,hxb⟩:=HLV.out;have HXB:=hI_ hxb.1;generalize ws'.getD i w8z=x at*;clear HROW hrv hv hh hgb hxb hlt';have hx3:=HCELL.out wr (Below.refl _ _) 3 _ rfl
 go_upto_region 13 with fail
 refine r13 E a cap fs ms HE.out w.heap.size g rc i ws' wr _ _ _ _ _ _ _ _ _ _ _ _ _ _ _ _ _ _ _ _ _ _ _ _ _ _ _ _ _ _ _ _ _ _ _ _ _ _ _ _ _ _ _ _ _ _ _ _ _ _ _ _ _ _ _ _ _ _ _ _ _ _ _ _ _ ?hq1 (hI_ (G.T.files_below HAT.out HA1.out.bl)) HT.out HP.out (by rw [HN1.out];omega) HWS (hI_ HA1.out.ok) ms.length (hI_ HN1.out.symm) hlt x hx HLV HXB C1 (hI_ (HCELL.out wr (Below.refl _ _))) hgw ?kk1
 case hq1=>exact fun _ _ d _ _ h=>by cases d <;> exact h
 intro t33 t34 t35 t36 t37 t38 t39 b8 y w2 hb8 hc8 hst hlv hnw hb2;rw [putL_all (show y.vs.length=z8.length from rfl)] at hc8;have HC8:=hI_ hc8;have HST:=hI_ hst;have HLY:=hI_ hlv;have HNW:=hI_ hnw;have hyl:y.ls.length<=15:=(hist_ok HEE.out (HEE.out.ms _ hst.ok.mem) hst.ok.his).1;obtain ⟨ya,yc,hyv,_⟩:=hlv;have m3:w2.cell? ⟨b8,3,none⟩=some (.slice ya y.ls.length yc):=hyv▸hc8.cell 3;have m4:w2.cell? ⟨b8,4,none⟩=some (.bool y.ov):=hc8.cell 4;have n3:w2.cell? ⟨g,i*8+3,none⟩=some (.slice xa x.ls.length xc):=hxl▸HCELL.out w2 hb2 3 _ rfl;have n4:w2.cell? ⟨g,i*8+4,none⟩=some (.bool x.ov):=HCELL.out w2 hb2 4 _ rfl;have HYV:=hI_ hyv;clear hc8 hst hnw hyv
 go_upto_region 14 with fail
 refine r14 g b8 i ms.length rc ag y.ov x.ov ya xa y.ls.length x.ls.length yc xc w2 _ _ _ _ _ _ _ _ _ _ _ _ _ _ _ _ _ _ _ _ _ _ _ _ _ _ _ _ _ _ _ _ _ _ _ _ _ _ _ _ _ _ _ _ _ _ _ _ _ _ _ _ _ _ _ _ _ _ _ _ _ _ _ _ ?hq2 hlt m4 m3 n4 n3 ?kk2
 case hq2=>exact fun _ _ d _ _ h=>by cases d <;> exact h
 intro t40 t41 t42 t43 t44 t45 t46 t47 t48 t49 t50 t51 t52 t53 t54 t55 t56 t57 t58 t59 t60 t61 t62 w3 hb3;have hb23:Below wr.heap.size wr w3:=bT hb2 hb3;have HA3:=hI_ (HA1.out.below hb23);have HC83:=hI_ (HC8.out.below hb3 HC8.out.lt);have HLY3:=hI_ (HLY.out.below hb3);have hb8':g≠b8:=om_;obtain ⟨xs,HCG,hxs⟩:∃ xs,Hid (Cl w3 g 119 xs)/\i*8+8<=xs.length:=by
  rcases HA3.out.row.2 with ⟨_,h0⟩ | ⟨g',cap',cur,hv,hgb,hh,h1,h2,h3,h4⟩
  · rw [HN1.out] at h0;omega
  injection hv with hv _ _;injection hv with hv;injection hv with hv _ _;subst hv;refine ⟨cur.toList,by show Cl _ _ _ _;unfold Cl;simpa using hh,?_⟩;rw [HN1.out] at h1;simp;omega
 have H1C:Hid (∀ v∈y.vs,v.oneCell'=true):=hI_ (w8_one y (by rw [HYV.out];rfl));clear m3 m4 n3 n4 hb2 hb3 HC8;obtain ⟨ag',HAG⟩:∃ b,Hid ((ag || (y.ov !=x.ov) || (y.ls.length !=x.ls.length))=b):=⟨_,rfl⟩;rw [HAG.out]
 go_wp2_with (first | (refine wp_ld8 rfl _ rfl b8 rfl y.vs HC83.out rfl ?_) | (refine wl_stN rfl 119 _ _ rfl (B:=g) (j:=i*8) rfl (vs:=y.vs) rfl HCG.out (by rw [vs_len];omega) H1C.out kr_ ?_;intro w4 hc4 ho4;have HC4:=hI_ hc4;have HO4:=hI_ ho4;clear hc4 ho4))
 have HSET:=hI_ (HA3.out.set HN1.out.symm hlt HCG.out HC4.out HO4.out HST.out.ok HLY3.out (fun k e=>by
  rcases HNW.out k e with h | h
  · have:=HXN.out k h
    intro c;subst c;exact this rfl
  omega))
 have hpw:=step_pw HST.out hyl;have hpot:=HPS.out y;have HZ1:Hid (ag'=true->pot (ws'.set i y)<pot ws):=fun c=>by
  have h0:=HQ0.out;cases ag
  · have:=hpw.2.1 (by have:=HAG.out;rw [c] at this;simpa using this)
    omega
  have:=HQ1.out rfl;omega
 have HZ2:Hid (ag'=false->(ws'.set i y).map key=ws.map key/\∀ j,j<i+1->Blk fs ms ws ((ws'.set i y).getD j w8z)):=fun c=>by
  have hag:=HAG.out;rw [c] at hag;cases ag;rotate_left
  · simp at hag
  have hk:=hpw.2.2 (by simpa using hag);obtain ⟨q1,q2⟩:=HQ2.out rfl;refine ⟨(HKS.out y hk).trans q1,fun j hj=>?_⟩;by_cases hji:i=j
  · subst hji
    rw [HGT.out];intro ho;obtain ⟨p1,p2,p3,p4⟩:=HST.out.blk ho;exact ⟨p1,p2,by rw [<- kn_same q1];exact p3,p4⟩
  rw [HGJ.out y j hji];exact q2 j om_
 have HZ0:Hid (pot (ws'.set i y)<=pot ws):=by have:=HQ0.out;show _<=_;omega
 have HZL:Hid ((ws'.set i y).length=ms.length):=by show _=_;rw [List.length_set];exact HN1.out
 have HZM:=hI_ ((HMS.out y HST.out.m).trans HM1.out);clear hpw hpot;go_roundw
 case rel=>exact ⟨i+1,ag',ws'.set i y,rfl,by go_num,om_,HSET.out,HZM.out,HZL.out,HZ0.out,HZ1.out,HZ2.out⟩
 case measure=>simp [intOf];omega
end Go.Proofs.YthjhakdpikdoeaaGreatDoor
