import Derived.Test.YtmalddmgdjkgaaaGreatDoorZ46
import Derived.Test.YtmalddmgdjkgaaaGreatDoorQA
import Derived.Deep.LoopGhost
import Derived.Test.YtmalddmgdjkgaaaGreatDoorZ27
namespace Go.Proofs.YtmalddmgdjkgaaaGreatDoor
open Go.RowKit
open G (plF IsPT)
open G.T (F2 f2z treeOk FilesAt)
set_option maxRecDepth 100000
set_option linter.unusedVariables false
def wysCells (ws:List W8):List Value:=ws.flatMap W8.vs
theorem vs_len (x:W8):x.vs.length=8:=rfl
theorem wysCells_len (ws:List W8):(wysCells ws).length=ws.length*8:=by
 induction ws with
 | nil=>rfl
 | cons x r ih=>unfold wysCells at *;simp only [List.flatMap_cons,List.length_append,List.length_cons,vs_len,ih];omega
theorem wysCells_snoc (ws:List W8) (x:W8):wysCells (ws++[x])=wysCells ws++x.vs:=by simp [wysCells]
theorem wysCells_get (ws:List W8) (i j:Nat) (h:i<ws.length) (hj:j<8):(wysCells ws)[i*8+j]?=(ws.getD i w8z).vs[j]?:=by
 induction ws generalizing i with
 | nil=>simp at h
 | cons x r ih=>
  show (x.vs++wysCells r)[i*8+j]?=_
  cases i with
  | zero=>rw [List.getElem?_append_left (by rw [vs_len];omega)];simp
  | succ i=>
   rw [List.getElem?_append_right (by rw [vs_len];omega),vs_len]
   have:=ih i (by simpa using h)
   rw [show (i+1)*8+j - 8=i*8+j by omega]
   simpa using this
theorem wys_put (ws:List W8) (i:Nat) (y:W8) (h:i<ws.length):wysCells (ws.set i y)=putL (wysCells ws) (i*8) y.vs:=by
 induction ws generalizing i with
 | nil=>simp at h
 | cons x r ih=>
  cases i with
  | zero=>
   show y.vs++wysCells r=putL (x.vs++wysCells r) (0*8) y.vs
   unfold putL
   rw [Nat.zero_mul,List.take_zero,Nat.zero_add,vs_len,← vs_len x,List.drop_left]
   simp
  | succ i=>
   show x.vs++wysCells (r.set i y)=putL (x.vs++wysCells r) ((i+1)*8) y.vs
   rw [ih i (by simpa using h)]
   unfold putL
   have e1:(i+1)*8=x.vs.length+i*8:=by rw [vs_len];omega
   rw [e1,List.take_length_add_append,Nat.add_assoc,List.drop_length_add_append]
   simp only [List.append_assoc]
theorem row_wys {w:World} {base:Nat} {v:Value} {ws:List W8} (h:w.ownsRow base 45 8 v ws.length (wysCells ws)):∃ a c,v=.slice a ws.length c∧WysAt w a ws:=by
 have h':=h
 rcases h.2 with ⟨hv,h0⟩ | ⟨g,cap,cur,hv,hg,hh,_⟩
 · exact ⟨none,0,by rw [hv,h0],.inl (List.length_eq_zero_iff.1 h0)⟩
 refine ⟨some ⟨g,0,none⟩,cap,hv,?_⟩
 subst hv
 refine .inr ⟨g,0,rfl,blk_lt hh,fun i hi j v e=>?_⟩
 have hj:j<8:=by have:=(List.getElem?_eq_some_iff.1 e).1;rwa [vs_len] at this
 rw [Nat.zero_add,h'.cellAt _ (by omega),wysCells_get ws i j hi hj]
 exact e
theorem putL_get {xs vs:List Value} {j:Nat} (hl:j+vs.length≤xs.length) (i:Nat):(putL xs j vs)[i]?=if j≤i∧i<j+vs.length then vs[i - j]? else xs[i]?:=by
 unfold putL
 by_cases h4:i<j
 · rw [if_neg (by omega),List.append_assoc,List.getElem?_append_left (by simp;omega),List.getElem?_take_of_lt h4]
 by_cases h5:i<j+vs.length
 · rw [if_pos ⟨by omega,h5⟩,List.append_assoc,List.getElem?_append_right (by simp;omega),List.getElem?_append_left (by simp;omega)]
   congr 1
   simp
   omega
 rw [if_neg (by omega),List.getElem?_append_right (by simp;omega),List.getElem?_drop]
 congr 1
 simp
 omega
theorem putL_take {xs vs:List Value} {j n:Nat} (h1:j+vs.length≤n) (h2:n≤xs.length):(putL xs j vs).take n=putL (xs.take n) j vs:=by
 apply List.ext_getElem?
 intro i
 rw [putL_get (by simp;omega),List.getElem?_take,putL_get (by omega),List.getElem?_take]
 by_cases h:j≤i∧i<j+vs.length
 · rw [if_pos h,if_pos h,if_pos (by omega)]
 rw [if_neg h,if_neg h]
theorem row_set {w w':World} {base g n cap:Nat} {ws:List W8} {xs:List Value} (h:w.ownsRow base 45 8 (.slice (some ⟨g,0,none⟩) n cap) n (wysCells ws)) (hn:n=ws.length) {i:Nat} (hi:i<n) (y:W8) (hc:Cl w g 45 xs) (hc':Cl w' g 45 (putL xs (i*8) y.vs)):w'.ownsRow base 45 8 (.slice (some ⟨g,0,none⟩) n cap) n (wysCells (ws.set i y)):=by
 refine ⟨by rw [wysCells_len,List.length_set,hn],?_⟩
 rcases h.2 with ⟨hv,h0⟩ | ⟨g',cap',cur,hv,hg,hh,h1,h2,h3,h4⟩
 · omega
 injection hv with hv _ hv2
 injection hv with hv
 injection hv with hv _ _
 subst hv hv2
 unfold Cl at hc
 rw [hh] at hc
 injection hc with hc
 injection hc with hc
 subst hc
 refine .inr ⟨g,cap,_,rfl,hg,hc',h1,h2,?_,?_⟩
 · have:xs.length=cap*8:=by simpa using h3
   simp only [List.size_toArray,putL,List.length_append,List.length_take,List.length_drop,vs_len]
   omega
 have hx:xs.length=cap*8:=by simpa using h3
 rw [wys_put ws i y (by omega),← h4]
 exact putL_take (by rw [vs_len];omega) (by omega)
end Go.Proofs.YtmalddmgdjkgaaaGreatDoor
namespace Go.Proofs.YtmalddmgdjkgaaaGreatDoor
open Go.RowKit
open G (plF IsPT)
open G.T (F2 f2z treeOk FilesAt)
set_option maxRecDepth 100000
set_option linter.unusedVariables false
set_option maxHeartbeats 16000000 in
theorem r13 (E:Env) (a:Option Addr) (cap:Nat) (fs:List F2) (ms:List G.M3) (hE:E=envOf fs ms) (wz0 g rc i:Nat) (ws:List W8) (w:World) (u0 u2 u4 u5 u6 u8 u9 u10 u11 u12 u13 u14 u15 u16 u17 u18 u19 u20 u21 u22 u23 u24 u25 u26 u27 u28 u29 u30 u31 u32 u33 u34 u35 u36 u37 u38 u39 u40 u41 u42 u43 u44 u45 u46 u47 u48 u49 u50 u51 u52 u53 u54 u55 u56 u57 u58 u59 u60 u61 u62 u63 u64 u65 u66 u67:Value) {Q:Exit→Act→World→Prop} (hQ:∀ c (a:Act) (d:Option Tmp) (v:Value) w,Q (.panic c) (a.put d v) w→Q (.panic c) a w)
 (HAT:Hid (FilesAt w a fs)) (ht:treeOk fs) (hp:IsPT fs ms) (hlw:ws.length≤300) (HWS:Hid (WysAt w (some ⟨g,0,none⟩) ws)) (hwo:Hid (∀ i,i<ws.length→WOk E (ws.getD i w8z))) (n:Nat) (hn:Hid (n=ws.length)) (hi:i<n) (x:W8) (hx:Hid (WOk E x)) (HLV:Hid (LvAt w x)) (HXB:Hid (∀ k,x.lv.ownBlock=some k→k<w.heap.size)) (C1:Hid (Cl w wz0 30 [.slice a fs.length cap])) (CR:Hid (∀ j v,x.vs[j]?=some v→w.cell? ⟨g,i*8+j,none⟩=some v)) (hg:g<w.heap.size)
 (hKK:∀ (t33 t34 t35 t36 t37 t38 t39:Value) (b8:Nat) (y:W8) (w':World),w.heap.size≤b8→Cl w' b8 45 (putL z8 0 y.vs)→StepTo E (knW fs ms ws) x y→LvAt w' y→Nw w x.lv y.lv→Below w.heap.size w w'→Q .normal { tmps:=#[u0,.pointer (some ⟨wz0,0,none⟩),u2,.slice (some ⟨g,0,none⟩) n rc,u4,u5,u6,.int .i64 i,.pointer (some ⟨b8,0,none⟩),u9,u10,u11,u12,u13,u14,u15,u16,u17,u18,u19,u20,u21,u22,u23,u24,u25,u26,u27,u28,u29,u30,u31,u32,t33,t34,t35,t36,t37,t38,t39,u40,u41,u42,u43,u44,u45,u46,u47,u48,u49,u50,u51,u52,u53,u54,u55,u56,u57,u58,u59,u60,u61,u62,u63,u64,u65,u66,u67],defers:=[] } w'):
 (Code.region 13 #[⟨some 33,.load 30 (.tmp 1),30, "l4_want.go:102",#[],none⟩,⟨some 34,.move (.tmp 3),48, "l4_want.go:102",#[],none⟩,⟨some 35,.move (.tmp 3),48, "l4_want.go:102",#[],none⟩,⟨some 36,.move (.tmp 7),3, "l4_want.go:102",#[],none⟩,⟨some 37,.indexAddr 48 (.tmp 35) (.tmp 36),0, "l4_want.go:102",#[⟨2,.data⟩,⟨3,.data⟩],none⟩,⟨some 38,.load 45 (.tmp 37),45, "l4_want.go:102",#[⟨4,.data⟩],none⟩,⟨some 39,.call ⟨.value (.func 31),#[.tmp 33,.tmp 34,.tmp 38],#[30,48,45]⟩,45, "l4_want.go:102",#[⟨0,.data⟩,⟨1,.data⟩,⟨5,.data⟩],none⟩,⟨some 8,.alloc 45,0, "l4_want.go:102",#[],none⟩,⟨none,.store 45 (.tmp 8) (.tmp 39),0, "l4_want.go:102",#[⟨7,.data⟩,⟨6,.data⟩,⟨6,.chain⟩,⟨0,.phase⟩,⟨1,.phase⟩,⟨2,.phase⟩,⟨3,.phase⟩,⟨4,.phase⟩,⟨5,.phase⟩,⟨6,.phase⟩,⟨7,.phase⟩],none⟩] true).wp Tryz.prog Q { tmps:=#[u0,.pointer (some ⟨wz0,0,none⟩),u2,.slice (some ⟨g,0,none⟩) n rc,u4,u5,u6,.int .i64 i,u8,u9,u10,u11,u12,u13,u14,u15,u16,u17,u18,u19,u20,u21,u22,u23,u24,u25,u26,u27,u28,u29,u30,u31,u32,u33,u34,u35,u36,u37,u38,u39,u40,u41,u42,u43,u44,u45,u46,u47,u48,u49,u50,u51,u52,u53,u54,u55,u56,u57,u58,u59,u60,u61,u62,u63,u64,u65,u66,u67],defers:=[] } w:=by
 refine wp_region_held_drew (S:=fun u=>Cl u wz0 30 [.slice a fs.length cap]∧∀ j v,x.vs[j]?=some v→u.cell? ⟨g,i*8+j,none⟩=some v) (by kernel_rfl) ?_ (fun hHeld=>?_)
 · exact ⟨C1.out,CR.out⟩
 obtain ⟨x0,hx0⟩:∃ x:World,x=w.drew:=⟨_,rfl⟩
 rw [← hx0] at hHeld ⊢
 have L0:Below w.heap.size w x0:=by rw [hx0];exact (Below.refl _ w).drew
 have z0a:x0.heap.size≤w.heap.size:=by rw [hx0];exact Nat.le_refl _
 have z0b:w.heap.size≤x0.heap.size:=by rw [hx0];exact Nat.le_refl _
 clear hx0
 have hi':(i:Int)<n:=by omega
 refine tq 0 hHeld ?_ (v:=?_) (hv:=?e)
 case e=>intro wq hSw;(try dsimp only at hSw);have s1:wq.cell? ⟨wz0,0,none⟩=some (.slice a fs.length cap):=hSw.1.cell 0;go_simp;try with_reducible rfl
 try simp only [qq]
 refine tq 1 hHeld ?_
 try simp only [qq]
 refine tq 2 hHeld ?_
 try simp only [qq]
 refine tq 3 hHeld ?_
 try simp only [qq]
 refine tq 4 hHeld ?_
 try simp only [qq]
 refine tk (i:=5) (oi:=⟨some 38,.load 45 (.tmp 37),45,_,_,none⟩) (v:=.agg x.vs.toArray) rfl (by kernel_rfl) rfl ?e hHeld ?_ (hQ:=fun _ _ _ h=>hQ _ _ _ _ _ h)
 case e=>intro wq hSw;exact ex_ldN 45 _ rfl (by simp [go_sem]) hSw.2 Tryz.underlying45 rfl (by kernel_rfl)
 try simp only [qq]
 refine wpAnyH_ready (rs:=[6,7]) (by kernel_rfl) (by simp) (AllReadyH.cons (o:=⟨some 39,.call ⟨.value (.func 31),#[.tmp 33,.tmp 34,.tmp 38],#[30,48,45]⟩,45,_,_,none⟩) rfl (fun K hK=>?_) (AllReadyH.cons (o:=⟨some 8,.alloc 45,0,_,_,none⟩) rfl (fun K hK=>?_) AllReadyH.nil))
 · go_simp
   have hc26:=c31 E a cap fs ms hE (some ⟨g,0,none⟩) rc ws x x0 (G.T.files_below HAT.out L0) ht hp hlw (wys_below HWS.out L0) hwo.out hx.out (HLV.out.below L0)
   rw [← hn.out] at hc26
   refine hc26.mono ?_
   rintro e x1 ⟨y,rfl,hst,hlv,hnw,hbx1⟩
   go_simp
   have Lall0:Below w.heap.size w x1:=L0.trans (hbx1.mono (by omega))
   clear hHeld
   refine hK.out _ _ ?_ (fun hHeld=>?_)
   · exact ⟨(Lall0.block _ C1.out.lt).trans C1.out,fun j v e=>(Lall0.cell (p:=⟨g,i*8+j,none⟩) hg).trans (CR.out j v e)⟩
   clear hK K
   try simp only [qq]
   refine rq 7 (fun K hK=>?_)
   go_simp
   obtain ⟨x2,hx2⟩:∃ x:World,x=x1.alloc (.cells #[.string ⟨#[]⟩,.string ⟨#[]⟩,.string ⟨#[]⟩,.slice none 0 0,.bool false,.int .i64 0,.string ⟨#[]⟩,.string ⟨#[]⟩] 45):=⟨_,rfl⟩
   rw [← hx2]
   have hb2:Below x1.heap.size x1 x2:=by rw [hx2];exact (Below.refl _ _).alloc (Nat.le_refl _) _
   have C8:Hid (Cl x2 x1.heap.size 45 z8):=by show Cl _ _ _ _;rw [hx2];exact cl_new x1 z8 45
   have Lall:Below w.heap.size w x2:=Lall0.trans (hb2.mono Lall0.size)
   have hsz1:=Lall0.size
   have hlv2:=hidI (hlv.below hb2)
   have HNBB:Hid (y.ls≠[]→∀ k,y.lv.ownBlock=some k→k≠x1.heap.size):=fun hne k e=>by
    obtain ⟨a',c',h1,h2,_⟩:=hlv
    rcases h2 with h2 | ⟨b,off,h3,h4,_⟩
    · exact absurd h2 hne
    rw [h1,h3] at e
    have e':b=k:=Option.some.inj e
    omega
   clear hx2
   clear hHeld
   refine hK.out _ _ ?_ (fun hHeld=>?_)
   · exact ⟨(Lall.block _ C1.out.lt).trans C1.out,fun j v e=>(Lall.cell (p:=⟨g,i*8+j,none⟩) hg).trans (CR.out j v e)⟩
   clear hK K
   try simp only [qq]
   refine rq 8 (fun K hK=>?_)
   refine st_stN rfl 45 _ _ rfl (B:=x1.heap.size) (j:=0) rfl (vs:=y.vs) rfl C8.out (by simp [z8,W8.vs]) (w8_one y (by obtain ⟨a',c',h1,_⟩:=hlv;rw [h1];rfl)) (by kernel_rfl) ?_
   intro w4 hc4 ho4
   clear hHeld
   refine hK.out _ _ ?_ (fun hHeld=>?_)
   · exact ⟨((Lall.trans (ho4.below (by omega))).block _ C1.out.lt).trans C1.out,fun j v e=>((Lall.trans (ho4.below (by omega))).cell (p:=⟨g,i*8+j,none⟩) hg).trans (CR.out j v e)⟩
   clear hK K
   try simp only [qq]
   refine wpAnyH_done (by kernel_rfl) ?_ _
   refine hKK _ _ _ _ _ _ _ _ y _ ?_ hc4 hst (LvAt.onB hlv2.out ho4 HNBB.out rfl rfl) ?_ ?_
   · omega
   · exact fun k e=>by rcases hnw k e with h | h;exact .inl h;exact .inr (by omega)
   exact Lall.trans (ho4.below (by omega))
 go_simp
 obtain ⟨x1,hx1⟩:∃ x:World,x=x0.alloc (.cells #[.string ⟨#[]⟩,.string ⟨#[]⟩,.string ⟨#[]⟩,.slice none 0 0,.bool false,.int .i64 0,.string ⟨#[]⟩,.string ⟨#[]⟩] 45):=⟨_,rfl⟩
 rw [← hx1]
 have hb1:Below x0.heap.size x0 x1:=by rw [hx1];exact (Below.refl _ _).alloc (Nat.le_refl _) _
 have C80:Hid (Cl x1 x0.heap.size 45 z8):=by show Cl _ _ _ _;rw [hx1];exact cl_new x0 z8 45
 have L1:Below w.heap.size w x1:=L0.trans (hb1.mono (by omega))
 have hsz1:x0.heap.size<x1.heap.size:=C80.out.lt
 clear hx1
 clear hHeld
 refine hK.out _ _ ?_ (fun hHeld=>?_)
 · exact ⟨(L1.block _ C1.out.lt).trans C1.out,fun j v e=>(L1.cell (p:=⟨g,i*8+j,none⟩) hg).trans (CR.out j v e)⟩
 clear hK K
 try simp only [qq]
 refine rq 6 (fun K hK=>?_)
 go_simp
 have hc26:=c31 E a cap fs ms hE (some ⟨g,0,none⟩) rc ws x x1 (G.T.files_below HAT.out L1) ht hp hlw (wys_below HWS.out L1) hwo.out hx.out (HLV.out.below L1)
 rw [← hn.out] at hc26
 refine hc26.mono ?_
 rintro e x2 ⟨y,rfl,hst,hlv,hnw,hbx2⟩
 go_simp
 have Lall:Below w.heap.size w x2:=L1.trans (hbx2.mono L1.size)
 have C8:=hidI (C80.out.below hbx2 C80.out.lt)
 have hlv2:=hidI hlv
 have HNBB:Hid (y.ls≠[]→∀ k,y.lv.ownBlock=some k→k≠x0.heap.size):=fun hne k e=>by
  rcases hnw k e with h | h
  · have:=HXB.out k h
    omega
  omega
 clear hHeld
 refine hK.out _ _ ?_ (fun hHeld=>?_)
 · exact ⟨(Lall.block _ C1.out.lt).trans C1.out,fun j v e=>(Lall.cell (p:=⟨g,i*8+j,none⟩) hg).trans (CR.out j v e)⟩
 clear hK K
 try simp only [qq]
 refine rq 8 (fun K hK=>?_)
 refine st_stN rfl 45 _ _ rfl (B:=x0.heap.size) (j:=0) rfl (vs:=y.vs) rfl C8.out (by simp [z8,W8.vs]) (w8_one y (by obtain ⟨a',c',h1,_⟩:=hlv;rw [h1];rfl)) (by kernel_rfl) ?_
 intro w4 hc4 ho4
 clear hHeld
 refine hK.out _ _ ?_ (fun hHeld=>?_)
 · exact ⟨((Lall.trans (ho4.below (by omega))).block _ C1.out.lt).trans C1.out,fun j v e=>((Lall.trans (ho4.below (by omega))).cell (p:=⟨g,i*8+j,none⟩) hg).trans (CR.out j v e)⟩
 clear hK K
 try simp only [qq]
 refine wpAnyH_done (by kernel_rfl) ?_ _
 refine hKK _ _ _ _ _ _ _ _ y _ ?_ hc4 hst (LvAt.onB hlv2.out ho4 HNBB.out rfl rfl) ?_ ?_
 · omega
 · exact fun k e=>by rcases hnw k e with h | h;exact .inl h;exact .inr (by omega)
 exact Lall.trans (ho4.below (by omega))
end Go.Proofs.YtmalddmgdjkgaaaGreatDoor
namespace Go.Proofs.YtmalddmgdjkgaaaGreatDoor
open Go.RowKit
set_option maxRecDepth 100000
set_option linter.unusedVariables false
set_option maxHeartbeats 16000000 in
theorem r14 (g b8 i n rc:Nat) (ag yo xo:Bool) (ya xa:Option Addr) (ly lx yc xc:Nat) (w:World) (u0 u1 u2 u4 u5 u9 u10 u11 u12 u13 u14 u15 u16 u17 u18 u19 u20 u21 u22 u23 u24 u25 u26 u27 u28 u29 u30 u31 u32 u33 u34 u35 u36 u37 u38 u39 u40 u41 u42 u43 u44 u45 u46 u47 u48 u49 u50 u51 u52 u53 u54 u55 u56 u57 u58 u59 u60 u61 u62 u63 u64 u65 u66 u67:Value) {Q:Exit→Act→World→Prop} (hQ:∀ c (a:Act) (d:Option Tmp) (v:Value) w,Q (.panic c) (a.put d v) w→Q (.panic c) a w)
 (hi:i<n) (h1:w.cell? ⟨b8,4,none⟩=some (.bool yo)) (h2:w.cell? ⟨b8,3,none⟩=some (.slice ya ly yc)) (h3:w.cell? ⟨g,i*8+4,none⟩=some (.bool xo)) (h4:w.cell? ⟨g,i*8+3,none⟩=some (.slice xa lx xc))
 (hKK:∀ (t40 t41 t42 t43 t44 t45 t46 t47 t48 t49 t50 t51 t52 t53 t54 t55 t56 t57 t58 t59 t60 t61 t62:Value) (w':World),Below w.heap.size w w'→Q .normal { tmps:=#[u0,u1,u2,.slice (some ⟨g,0,none⟩) n rc,u4,u5,.bool (ag || (yo !=xo) || (ly !=lx)),.int .i64 i,.pointer (some ⟨b8,0,none⟩),u9,u10,u11,u12,u13,u14,u15,u16,u17,u18,u19,u20,u21,u22,u23,u24,u25,u26,u27,u28,u29,u30,u31,u32,u33,u34,u35,u36,u37,u38,u39,t40,t41,t42,t43,t44,t45,t46,t47,t48,t49,t50,t51,t52,t53,t54,t55,t56,t57,t58,t59,t60,t61,t62,u63,u64,u65,u66,u67],defers:=[] } w'):
 (Code.region 14 #[⟨some 40,.move (.tmp 6),4, "l4_want.go:103",#[],none⟩,⟨some 41,.move (.tmp 40),4, "l4_want.go:103",#[⟨0,.data⟩],none⟩,⟨some 42,.fieldAddr 45 (.tmp 8) 2,0, "l4_want.go:103",#[⟨1,.guard⟩],some (1,false)⟩,⟨some 43,.load 4 (.tmp 42),4, "l4_want.go:103",#[⟨2,.data⟩,⟨1,.guard⟩],some (1,false)⟩,⟨some 44,.move (.tmp 3),48, "l4_want.go:103",#[⟨1,.guard⟩],some (1,false)⟩,⟨some 45,.move (.tmp 7),3, "l4_want.go:103",#[⟨1,.guard⟩],some (1,false)⟩,⟨some 46,.indexAddr 48 (.tmp 44) (.tmp 45),0, "l4_want.go:103",#[⟨4,.data⟩,⟨5,.data⟩,⟨1,.guard⟩],some (1,false)⟩,⟨some 47,.fieldAddr 45 (.tmp 46) 2,0, "l4_want.go:103",#[⟨6,.data⟩,⟨1,.guard⟩],some (1,false)⟩,⟨some 48,.load 4 (.tmp 47),4, "l4_want.go:103",#[⟨7,.data⟩,⟨1,.guard⟩],some (1,false)⟩,⟨some 49,.binOp .neq 4 (.tmp 43) (.tmp 48) 4,4, "l4_want.go:103",#[⟨3,.data⟩,⟨8,.data⟩,⟨1,.guard⟩],some (1,false)⟩,⟨some 50,.pick (.tmp 41) (.const (.bool true)) (.tmp 49),4, "l4_want.go:103",#[⟨1,.data⟩,⟨9,.data⟩],none⟩,⟨some 51,.move (.tmp 50),4, "l4_want.go:103",#[⟨10,.data⟩,⟨1,.chain⟩],none⟩,⟨some 52,.fieldAddr 45 (.tmp 8) 1,0, "l4_want.go:103",#[⟨11,.guard⟩],some (11,false)⟩,⟨some 53,.load 26 (.tmp 52),26, "l4_want.go:103",#[⟨12,.data⟩,⟨11,.guard⟩],some (11,false)⟩,⟨some 54,.call ⟨.builtin .len,#[.tmp 53],#[26]⟩,3, "l4_want.go:103",#[⟨13,.data⟩,⟨11,.guard⟩],some (11,false)⟩,⟨some 55,.move (.tmp 3),48, "l4_want.go:103",#[⟨11,.guard⟩],some (11,false)⟩,⟨some 56,.move (.tmp 7),3, "l4_want.go:103",#[⟨11,.guard⟩],some (11,false)⟩,⟨some 57,.indexAddr 48 (.tmp 55) (.tmp 56),0, "l4_want.go:103",#[⟨15,.data⟩,⟨16,.data⟩,⟨11,.guard⟩],some (11,false)⟩,⟨some 58,.fieldAddr 45 (.tmp 57) 1,0, "l4_want.go:103",#[⟨17,.data⟩,⟨11,.guard⟩],some (11,false)⟩,⟨some 59,.load 26 (.tmp 58),26, "l4_want.go:103",#[⟨18,.data⟩,⟨11,.guard⟩],some (11,false)⟩,⟨some 60,.call ⟨.builtin .len,#[.tmp 59],#[26]⟩,3, "l4_want.go:103",#[⟨19,.data⟩,⟨11,.guard⟩],some (11,false)⟩,⟨some 61,.binOp .neq 3 (.tmp 54) (.tmp 60) 3,4, "l4_want.go:103",#[⟨14,.data⟩,⟨20,.data⟩,⟨11,.guard⟩],some (11,false)⟩,⟨some 62,.pick (.tmp 51) (.const (.bool true)) (.tmp 61),4, "l4_want.go:103",#[⟨11,.data⟩,⟨21,.data⟩],none⟩,⟨some 6,.assign (.tmp 62),4, "l4_want.go:103",#[⟨22,.data⟩,⟨11,.chain⟩,⟨0,.phase⟩,⟨1,.phase⟩,⟨2,.phase⟩,⟨3,.phase⟩,⟨4,.phase⟩,⟨5,.phase⟩,⟨6,.phase⟩,⟨7,.phase⟩,⟨8,.phase⟩,⟨9,.phase⟩,⟨10,.phase⟩,⟨11,.phase⟩,⟨12,.phase⟩,⟨13,.phase⟩,⟨14,.phase⟩,⟨15,.phase⟩,⟨16,.phase⟩,⟨17,.phase⟩,⟨18,.phase⟩,⟨19,.phase⟩,⟨20,.phase⟩,⟨21,.phase⟩,⟨22,.phase⟩],none⟩] true).wp Tryz.prog Q { tmps:=#[u0,u1,u2,.slice (some ⟨g,0,none⟩) n rc,u4,u5,.bool ag,.int .i64 i,.pointer (some ⟨b8,0,none⟩),u9,u10,u11,u12,u13,u14,u15,u16,u17,u18,u19,u20,u21,u22,u23,u24,u25,u26,u27,u28,u29,u30,u31,u32,u33,u34,u35,u36,u37,u38,u39,u40,u41,u42,u43,u44,u45,u46,u47,u48,u49,u50,u51,u52,u53,u54,u55,u56,u57,u58,u59,u60,u61,u62,u63,u64,u65,u66,u67],defers:=[] } w:=by
 have hi':(i:Int)<n:=by omega
 cases ag
 · cases yo
   · cases xo
     · by_cases hl:ly=lx
       · subst hl
         rw [show (false || (false !=false) || (ly !=ly))=false by simp] at hKK
         refine wp_region_held_drew (S:=fun u=>u.cell? ⟨b8,4,none⟩=some (.bool false)∧u.cell? ⟨b8,3,none⟩=some (.slice ya ly yc)∧u.cell? ⟨g,i*8+4,none⟩=some (.bool false)∧u.cell? ⟨g,i*8+3,none⟩=some (.slice xa ly xc)) (by kernel_rfl) ?_ (fun hHeld=>?_)
         · exact ⟨h1,h2,h3,h4⟩
         refine tq 0 hHeld ?_
         try simp only [qq]
         refine tq 1 hHeld ?_
         try simp only [qq]
         refine tq 2 hHeld ?_
         try simp only [qq]
         refine tq 3 hHeld ?_ (v:=?_) (hv:=?e)
         case e=>intro wq hSw;(try dsimp only at hSw);obtain ⟨s1,s2,s3,s4⟩:=hSw;go_simp;try with_reducible rfl
         try simp only [qq]
         refine tq 4 hHeld ?_
         try simp only [qq]
         refine tq 5 hHeld ?_
         try simp only [qq]
         refine tq 6 hHeld ?_
         try simp only [qq]
         refine tq 7 hHeld ?_
         try simp only [qq]
         refine tq 8 hHeld ?_ (v:=?_) (hv:=?e)
         case e=>intro wq hSw;(try dsimp only at hSw);obtain ⟨s1,s2,s3,s4⟩:=hSw;go_simp;try with_reducible rfl
         try simp only [qq]
         refine tq 9 hHeld ?_
         try simp only [qq]
         refine tq 10 hHeld ?_
         try simp only [qq]
         refine tq 11 hHeld ?_
         try simp only [qq]
         refine tq 12 hHeld ?_
         try simp only [qq]
         refine tq 13 hHeld ?_ (v:=?_) (hv:=?e)
         case e=>intro wq hSw;(try dsimp only at hSw);obtain ⟨s1,s2,s3,s4⟩:=hSw;go_simp;try with_reducible rfl
         try simp only [qq]
         refine tq 14 hHeld ?_
         try simp only [qq]
         refine tq 15 hHeld ?_
         try simp only [qq]
         refine tq 16 hHeld ?_
         try simp only [qq]
         refine tq 17 hHeld ?_
         try simp only [qq]
         refine tq 18 hHeld ?_
         try simp only [qq]
         refine tq 19 hHeld ?_ (v:=?_) (hv:=?e)
         case e=>intro wq hSw;(try dsimp only at hSw);obtain ⟨s1,s2,s3,s4⟩:=hSw;go_simp;try with_reducible rfl
         try simp only [qq]
         refine tq 20 hHeld ?_
         try simp only [qq]
         refine tq 21 hHeld ?_
         try simp only [qq]
         refine tq 22 hHeld ?_
         try simp only [qq]
         refine tq 23 hHeld ?_
         try simp only [qq]
         refine wpAnyH_done (by kernel_rfl) ?_ _
         exact hKK _ _ _ _ _ _ _ _ _ _ _ _ _ _ _ _ _ _ _ _ _ _ _ _ (Below.refl _ w).drew
       have hl1:((ly:Int) !=(lx:Int))=true:=by simp;omega
       rw [show (false || (false !=false) || (ly !=lx))=true by simp [hl]] at hKK
       refine wp_region_held_drew (S:=fun u=>u.cell? ⟨b8,4,none⟩=some (.bool false)∧u.cell? ⟨b8,3,none⟩=some (.slice ya ly yc)∧u.cell? ⟨g,i*8+4,none⟩=some (.bool false)∧u.cell? ⟨g,i*8+3,none⟩=some (.slice xa lx xc)) (by kernel_rfl) ?_ (fun hHeld=>?_)
       · exact ⟨h1,h2,h3,h4⟩
       refine tq 0 hHeld ?_
       try simp only [qq]
       refine tq 1 hHeld ?_
       try simp only [qq]
       refine tq 2 hHeld ?_
       try simp only [qq]
       refine tq 3 hHeld ?_ (v:=?_) (hv:=?e)
       case e=>intro wq hSw;(try dsimp only at hSw);obtain ⟨s1,s2,s3,s4⟩:=hSw;go_simp;try with_reducible rfl
       try simp only [qq]
       refine tq 4 hHeld ?_
       try simp only [qq]
       refine tq 5 hHeld ?_
       try simp only [qq]
       refine tq 6 hHeld ?_
       try simp only [qq]
       refine tq 7 hHeld ?_
       try simp only [qq]
       refine tq 8 hHeld ?_ (v:=?_) (hv:=?e)
       case e=>intro wq hSw;(try dsimp only at hSw);obtain ⟨s1,s2,s3,s4⟩:=hSw;go_simp;try with_reducible rfl
       try simp only [qq]
       refine tq 9 hHeld ?_
       try simp only [qq]
       refine tq 10 hHeld ?_
       try simp only [qq]
       refine tq 11 hHeld ?_
       try simp only [qq]
       refine tq 12 hHeld ?_
       try simp only [qq]
       refine tq 13 hHeld ?_ (v:=?_) (hv:=?e)
       case e=>intro wq hSw;(try dsimp only at hSw);obtain ⟨s1,s2,s3,s4⟩:=hSw;go_simp;try with_reducible rfl
       try simp only [qq]
       refine tq 14 hHeld ?_
       try simp only [qq]
       refine tq 15 hHeld ?_
       try simp only [qq]
       refine tq 16 hHeld ?_
       try simp only [qq]
       refine tq 17 hHeld ?_
       try simp only [qq]
       refine tq 18 hHeld ?_
       try simp only [qq]
       refine tq 19 hHeld ?_ (v:=?_) (hv:=?e)
       case e=>intro wq hSw;(try dsimp only at hSw);obtain ⟨s1,s2,s3,s4⟩:=hSw;go_simp;try with_reducible rfl
       try simp only [qq]
       refine tq 20 hHeld ?_
       try simp only [qq]
       refine tq 21 hHeld ?_
       try simp only [qq]
       refine tq 22 hHeld ?_
       try simp only [qq]
       refine tq 23 hHeld ?_
       try simp only [qq]
       refine wpAnyH_done (by kernel_rfl) ?_ _
       exact hKK _ _ _ _ _ _ _ _ _ _ _ _ _ _ _ _ _ _ _ _ _ _ _ _ (Below.refl _ w).drew
     refine wp_region_held_drew (S:=fun u=>u.cell? ⟨b8,4,none⟩=some (.bool false)∧u.cell? ⟨b8,3,none⟩=some (.slice ya ly yc)∧u.cell? ⟨g,i*8+4,none⟩=some (.bool true)∧u.cell? ⟨g,i*8+3,none⟩=some (.slice xa lx xc)) (by kernel_rfl) ?_ (fun hHeld=>?_)
     · exact ⟨h1,h2,h3,h4⟩
     refine tq 0 hHeld ?_
     try simp only [qq]
     refine tq 1 hHeld ?_
     try simp only [qq]
     refine tq 2 hHeld ?_
     try simp only [qq]
     refine tq 3 hHeld ?_ (v:=?_) (hv:=?e)
     case e=>intro wq hSw;(try dsimp only at hSw);obtain ⟨s1,s2,s3,s4⟩:=hSw;go_simp;try with_reducible rfl
     try simp only [qq]
     refine tq 4 hHeld ?_
     try simp only [qq]
     refine tq 5 hHeld ?_
     try simp only [qq]
     refine tq 6 hHeld ?_
     try simp only [qq]
     refine tq 7 hHeld ?_
     try simp only [qq]
     refine tq 8 hHeld ?_ (v:=?_) (hv:=?e)
     case e=>intro wq hSw;(try dsimp only at hSw);obtain ⟨s1,s2,s3,s4⟩:=hSw;go_simp;try with_reducible rfl
     try simp only [qq]
     refine tq 9 hHeld ?_
     try simp only [qq]
     refine tq 10 hHeld ?_
     try simp only [qq]
     refine tq 11 hHeld ?_
     try simp only [qq]
     refine uq 12 hHeld ?_
     try simp only [qq]
     refine uq 13 hHeld ?_
     try simp only [qq]
     refine uq 14 hHeld ?_
     try simp only [qq]
     refine uq 15 hHeld ?_
     try simp only [qq]
     refine uq 16 hHeld ?_
     try simp only [qq]
     refine uq 17 hHeld ?_
     try simp only [qq]
     refine uq 18 hHeld ?_
     try simp only [qq]
     refine uq 19 hHeld ?_
     try simp only [qq]
     refine uq 20 hHeld ?_
     try simp only [qq]
     refine uq 21 hHeld ?_
     try simp only [qq]
     refine tq 22 hHeld ?_
     try simp only [qq]
     refine tq 23 hHeld ?_
     try simp only [qq]
     refine wpAnyH_done (by kernel_rfl) ?_ _
     exact hKK _ _ _ _ _ _ _ _ _ _ _ _ _ _ _ _ _ _ _ _ _ _ _ _ (Below.refl _ w).drew
   cases xo
   · refine wp_region_held_drew (S:=fun u=>u.cell? ⟨b8,4,none⟩=some (.bool true)∧u.cell? ⟨b8,3,none⟩=some (.slice ya ly yc)∧u.cell? ⟨g,i*8+4,none⟩=some (.bool false)∧u.cell? ⟨g,i*8+3,none⟩=some (.slice xa lx xc)) (by kernel_rfl) ?_ (fun hHeld=>?_)
     · exact ⟨h1,h2,h3,h4⟩
     refine tq 0 hHeld ?_
     try simp only [qq]
     refine tq 1 hHeld ?_
     try simp only [qq]
     refine tq 2 hHeld ?_
     try simp only [qq]
     refine tq 3 hHeld ?_ (v:=?_) (hv:=?e)
     case e=>intro wq hSw;(try dsimp only at hSw);obtain ⟨s1,s2,s3,s4⟩:=hSw;go_simp;try with_reducible rfl
     try simp only [qq]
     refine tq 4 hHeld ?_
     try simp only [qq]
     refine tq 5 hHeld ?_
     try simp only [qq]
     refine tq 6 hHeld ?_
     try simp only [qq]
     refine tq 7 hHeld ?_
     try simp only [qq]
     refine tq 8 hHeld ?_ (v:=?_) (hv:=?e)
     case e=>intro wq hSw;(try dsimp only at hSw);obtain ⟨s1,s2,s3,s4⟩:=hSw;go_simp;try with_reducible rfl
     try simp only [qq]
     refine tq 9 hHeld ?_
     try simp only [qq]
     refine tq 10 hHeld ?_
     try simp only [qq]
     refine tq 11 hHeld ?_
     try simp only [qq]
     refine uq 12 hHeld ?_
     try simp only [qq]
     refine uq 13 hHeld ?_
     try simp only [qq]
     refine uq 14 hHeld ?_
     try simp only [qq]
     refine uq 15 hHeld ?_
     try simp only [qq]
     refine uq 16 hHeld ?_
     try simp only [qq]
     refine uq 17 hHeld ?_
     try simp only [qq]
     refine uq 18 hHeld ?_
     try simp only [qq]
     refine uq 19 hHeld ?_
     try simp only [qq]
     refine uq 20 hHeld ?_
     try simp only [qq]
     refine uq 21 hHeld ?_
     try simp only [qq]
     refine tq 22 hHeld ?_
     try simp only [qq]
     refine tq 23 hHeld ?_
     try simp only [qq]
     refine wpAnyH_done (by kernel_rfl) ?_ _
     exact hKK _ _ _ _ _ _ _ _ _ _ _ _ _ _ _ _ _ _ _ _ _ _ _ _ (Below.refl _ w).drew
   by_cases hl:ly=lx
   · subst hl
     rw [show (false || (true !=true) || (ly !=ly))=false by simp] at hKK
     refine wp_region_held_drew (S:=fun u=>u.cell? ⟨b8,4,none⟩=some (.bool true)∧u.cell? ⟨b8,3,none⟩=some (.slice ya ly yc)∧u.cell? ⟨g,i*8+4,none⟩=some (.bool true)∧u.cell? ⟨g,i*8+3,none⟩=some (.slice xa ly xc)) (by kernel_rfl) ?_ (fun hHeld=>?_)
     · exact ⟨h1,h2,h3,h4⟩
     refine tq 0 hHeld ?_
     try simp only [qq]
     refine tq 1 hHeld ?_
     try simp only [qq]
     refine tq 2 hHeld ?_
     try simp only [qq]
     refine tq 3 hHeld ?_ (v:=?_) (hv:=?e)
     case e=>intro wq hSw;(try dsimp only at hSw);obtain ⟨s1,s2,s3,s4⟩:=hSw;go_simp;try with_reducible rfl
     try simp only [qq]
     refine tq 4 hHeld ?_
     try simp only [qq]
     refine tq 5 hHeld ?_
     try simp only [qq]
     refine tq 6 hHeld ?_
     try simp only [qq]
     refine tq 7 hHeld ?_
     try simp only [qq]
     refine tq 8 hHeld ?_ (v:=?_) (hv:=?e)
     case e=>intro wq hSw;(try dsimp only at hSw);obtain ⟨s1,s2,s3,s4⟩:=hSw;go_simp;try with_reducible rfl
     try simp only [qq]
     refine tq 9 hHeld ?_
     try simp only [qq]
     refine tq 10 hHeld ?_
     try simp only [qq]
     refine tq 11 hHeld ?_
     try simp only [qq]
     refine tq 12 hHeld ?_
     try simp only [qq]
     refine tq 13 hHeld ?_ (v:=?_) (hv:=?e)
     case e=>intro wq hSw;(try dsimp only at hSw);obtain ⟨s1,s2,s3,s4⟩:=hSw;go_simp;try with_reducible rfl
     try simp only [qq]
     refine tq 14 hHeld ?_
     try simp only [qq]
     refine tq 15 hHeld ?_
     try simp only [qq]
     refine tq 16 hHeld ?_
     try simp only [qq]
     refine tq 17 hHeld ?_
     try simp only [qq]
     refine tq 18 hHeld ?_
     try simp only [qq]
     refine tq 19 hHeld ?_ (v:=?_) (hv:=?e)
     case e=>intro wq hSw;(try dsimp only at hSw);obtain ⟨s1,s2,s3,s4⟩:=hSw;go_simp;try with_reducible rfl
     try simp only [qq]
     refine tq 20 hHeld ?_
     try simp only [qq]
     refine tq 21 hHeld ?_
     try simp only [qq]
     refine tq 22 hHeld ?_
     try simp only [qq]
     refine tq 23 hHeld ?_
     try simp only [qq]
     refine wpAnyH_done (by kernel_rfl) ?_ _
     exact hKK _ _ _ _ _ _ _ _ _ _ _ _ _ _ _ _ _ _ _ _ _ _ _ _ (Below.refl _ w).drew
   have hl1:((ly:Int) !=(lx:Int))=true:=by simp;omega
   rw [show (false || (true !=true) || (ly !=lx))=true by simp [hl]] at hKK
   refine wp_region_held_drew (S:=fun u=>u.cell? ⟨b8,4,none⟩=some (.bool true)∧u.cell? ⟨b8,3,none⟩=some (.slice ya ly yc)∧u.cell? ⟨g,i*8+4,none⟩=some (.bool true)∧u.cell? ⟨g,i*8+3,none⟩=some (.slice xa lx xc)) (by kernel_rfl) ?_ (fun hHeld=>?_)
   · exact ⟨h1,h2,h3,h4⟩
   refine tq 0 hHeld ?_
   try simp only [qq]
   refine tq 1 hHeld ?_
   try simp only [qq]
   refine tq 2 hHeld ?_
   try simp only [qq]
   refine tq 3 hHeld ?_ (v:=?_) (hv:=?e)
   case e=>intro wq hSw;(try dsimp only at hSw);obtain ⟨s1,s2,s3,s4⟩:=hSw;go_simp;try with_reducible rfl
   try simp only [qq]
   refine tq 4 hHeld ?_
   try simp only [qq]
   refine tq 5 hHeld ?_
   try simp only [qq]
   refine tq 6 hHeld ?_
   try simp only [qq]
   refine tq 7 hHeld ?_
   try simp only [qq]
   refine tq 8 hHeld ?_ (v:=?_) (hv:=?e)
   case e=>intro wq hSw;(try dsimp only at hSw);obtain ⟨s1,s2,s3,s4⟩:=hSw;go_simp;try with_reducible rfl
   try simp only [qq]
   refine tq 9 hHeld ?_
   try simp only [qq]
   refine tq 10 hHeld ?_
   try simp only [qq]
   refine tq 11 hHeld ?_
   try simp only [qq]
   refine tq 12 hHeld ?_
   try simp only [qq]
   refine tq 13 hHeld ?_ (v:=?_) (hv:=?e)
   case e=>intro wq hSw;(try dsimp only at hSw);obtain ⟨s1,s2,s3,s4⟩:=hSw;go_simp;try with_reducible rfl
   try simp only [qq]
   refine tq 14 hHeld ?_
   try simp only [qq]
   refine tq 15 hHeld ?_
   try simp only [qq]
   refine tq 16 hHeld ?_
   try simp only [qq]
   refine tq 17 hHeld ?_
   try simp only [qq]
   refine tq 18 hHeld ?_
   try simp only [qq]
   refine tq 19 hHeld ?_ (v:=?_) (hv:=?e)
   case e=>intro wq hSw;(try dsimp only at hSw);obtain ⟨s1,s2,s3,s4⟩:=hSw;go_simp;try with_reducible rfl
   try simp only [qq]
   refine tq 20 hHeld ?_
   try simp only [qq]
   refine tq 21 hHeld ?_
   try simp only [qq]
   refine tq 22 hHeld ?_
   try simp only [qq]
   refine tq 23 hHeld ?_
   try simp only [qq]
   refine wpAnyH_done (by kernel_rfl) ?_ _
   exact hKK _ _ _ _ _ _ _ _ _ _ _ _ _ _ _ _ _ _ _ _ _ _ _ _ (Below.refl _ w).drew
 rw [show (true || (yo !=xo) || (ly !=lx))=true by simp] at hKK
 refine wp_region_held_drew (S:=fun u=>u.cell? ⟨b8,4,none⟩=some (.bool yo)∧u.cell? ⟨b8,3,none⟩=some (.slice ya ly yc)∧u.cell? ⟨g,i*8+4,none⟩=some (.bool xo)∧u.cell? ⟨g,i*8+3,none⟩=some (.slice xa lx xc)) (by kernel_rfl) ?_ (fun hHeld=>?_)
 · exact ⟨h1,h2,h3,h4⟩
 refine tq 0 hHeld ?_
 try simp only [qq]
 refine tq 1 hHeld ?_
 try simp only [qq]
 refine uq 2 hHeld ?_
 try simp only [qq]
 refine uq 3 hHeld ?_
 try simp only [qq]
 refine uq 4 hHeld ?_
 try simp only [qq]
 refine uq 5 hHeld ?_
 try simp only [qq]
 refine uq 6 hHeld ?_
 try simp only [qq]
 refine uq 7 hHeld ?_
 try simp only [qq]
 refine uq 8 hHeld ?_
 try simp only [qq]
 refine uq 9 hHeld ?_
 try simp only [qq]
 refine tq 10 hHeld ?_
 try simp only [qq]
 refine tq 11 hHeld ?_
 try simp only [qq]
 refine uq 12 hHeld ?_
 try simp only [qq]
 refine uq 13 hHeld ?_
 try simp only [qq]
 refine uq 14 hHeld ?_
 try simp only [qq]
 refine uq 15 hHeld ?_
 try simp only [qq]
 refine uq 16 hHeld ?_
 try simp only [qq]
 refine uq 17 hHeld ?_
 try simp only [qq]
 refine uq 18 hHeld ?_
 try simp only [qq]
 refine uq 19 hHeld ?_
 try simp only [qq]
 refine uq 20 hHeld ?_
 try simp only [qq]
 refine uq 21 hHeld ?_
 try simp only [qq]
 refine tq 22 hHeld ?_
 try simp only [qq]
 refine tq 23 hHeld ?_
 try simp only [qq]
 refine wpAnyH_done (by kernel_rfl) ?_ _
 exact hKK _ _ _ _ _ _ _ _ _ _ _ _ _ _ _ _ _ _ _ _ _ _ _ _ (Below.refl _ w).drew
end Go.Proofs.YtmalddmgdjkgaaaGreatDoor
namespace Go.Proofs.YtmalddmgdjkgaaaGreatDoor
open Go.RowKit
open G (plF IsPT)
open G.T (F2 f2z treeOk FilesAt)
set_option maxRecDepth 100000
set_option linter.unusedVariables false
def wz (m:G.M3):W8:=⟨toM m,.slice none 0 0,[],false,0,⟨#[]⟩,⟨#[]⟩⟩
structure A14 (E:Env) (w:World) (tv v:Value) (ws:List W8) (wr:World):Prop where
 t1:Cl wr w.heap.size 30 [tv]
 row:wr.ownsRow w.heap.size 45 8 v ws.length (wysCells ws)
 ok:∀ i,i<ws.length→WOk E (ws.getD i w8z)
 lv:∀ i,i<ws.length→LvAt wr (ws.getD i w8z)
 nb:∀ i,i<ws.length→∀ k,(ws.getD i w8z).lv.ownBlock=some k→v.ownBlock≠some k
 bl:Below w.heap.size w wr
theorem A14.below {E:Env} {w:World} {tv v:Value} {ws:List W8} {wr u:World} (h:A14 E w tv v ws wr) (hb:Below wr.heap.size wr u):A14 E w tv v ws u:=
 ⟨h.t1.below hb h.t1.lt,ownsRow_below h.row hb,h.ok,fun i hi=>(h.lv i hi).below hb,h.nb,h.bl.trans (hb.mono h.bl.size)⟩
theorem wz_ok {E:Env} {m:G.M3} (h:toM m∈E.ms):WOk E (wz m):=⟨h,.nil _,fun h=>by cases h⟩
theorem wz_lv (w:World) (m:G.M3):LvAt w (wz m):=⟨none,0,rfl,.inl rfl,fun k e=>by cases e⟩
theorem wz_ls (l:List G.M3) (i:Nat):((l.map wz).getD i w8z).ls=[]∧((l.map wz).getD i w8z).lv.ownBlock=none:=by
 rw [List.getD_eq_getElem?_getD,List.getElem?_map]
 cases l[i]? <;> exact ⟨rfl,rfl⟩
theorem getD_snoc {α:Type} (l:List α) (x d:α) (i:Nat) (h:i<(l++[x]).length):(i<l.length∧(l++[x]).getD i d=l.getD i d)∨(i=l.length∧(l++[x]).getD i d=x):=by
 rcases Nat.lt_or_ge i l.length with h1 | h1
 · exact .inl ⟨h1,by simp [List.getD,List.getElem?_append_left h1]⟩
 have:i=l.length:=by simp at h;omega
 subst this
 exact .inr ⟨rfl,by simp [List.getD]⟩
theorem take_get {ms:List G.M3} {k:Nat} (h:k<ms.length):ms.take (k+1)=ms.take k++[ms.getD k G.m3z]:=by
 rw [List.take_succ_eq_append_getElem h]
 simp [List.getD,List.getElem?_eq_getElem h]
theorem A14.snoc {E:Env} {w:World} {tv v v':Value} {ws:List W8} {wr u u':World} (h:A14 E w tv v ws wr) {m:G.M3} (hm:toM m∈E.ms) (hu:Below wr.heap.size wr u) (hg:u.grownBy u' v.ownBlock) (hr:u'.ownsRow w.heap.size 45 8 v' (ws.length+1) (wysCells ws++(wz m).vs)) (hn:∀ i,i<ws.length→(ws.getD i w8z).ls=[]∧(ws.getD i w8z).lv.ownBlock=none):A14 E w tv v' (ws++[wz m]) u':=by
 have hge:∀ k,v.ownBlock=some k→w.heap.size≤k:=fun k e=>(h.row.lt k e).1
 have hget:∀ i,i<(ws++[wz m]).length→(((ws++[wz m]).getD i w8z).ls=[]∧((ws++[wz m]).getD i w8z).lv.ownBlock=none)∧WOk E ((ws++[wz m]).getD i w8z)∧∀ u:World,Below wr.heap.size wr u→LvAt u ((ws++[wz m]).getD i w8z):=fun i hi=>by
  rcases getD_snoc ws (wz m) w8z i hi with ⟨h1,e⟩ | ⟨_,e⟩
  · rw [e];exact ⟨hn i h1,h.ok i h1,fun u hb=>(h.lv i h1).below hb⟩
  rw [e];exact ⟨⟨rfl,rfl⟩,wz_ok hm,fun u _=>wz_lv u m⟩
 refine ⟨?_,by rw [wysCells_snoc,List.length_append];exact hr,fun i hi=>(hget i hi).2.1,fun i hi=>?_,(fun i hi k e=>by rw [(hget i hi).1.2] at e;cases e),?_⟩
 · have h1:=h.t1.below hu h.t1.lt
   refine (hg.block _ h1.lt (fun e=>?_)).trans h1
   rcases h.row.2 with ⟨hv,_⟩ | ⟨g,cap,cur,hv,_,hh,_⟩
   · rw [hv] at e;cases e
   rw [hv] at e
   have e:w.heap.size=g:=Option.some.inj e
   subst e
   have h2:=h.t1
   unfold Cl at h2
   rw [hh] at h2
   injection h2 with h2
   injection h2 with _ h2
   cases h2
 · obtain ⟨a',c',h1,h2,h3⟩:=(hget i hi).2.2 u hu
   exact ⟨a',c',h1,.inl (hget i hi).1.1,fun k e=>by rw [(hget i hi).1.2] at e;cases e⟩
 exact h.bl.trans ((hu.mono h.bl.size).trans ⟨hg.os,hg.tape,hg.output,hg.size,fun k hk=>hg.block k (by have:=h.bl.size;have:=hu.size;omega) (fun e=>by have:=hge k e.symm;omega)⟩)
def key (y:W8):M.M3×List M.L4×Bool:=(y.m,y.ls,y.ov)
def pw (y:W8):Nat:=16 - y.ls.length+(if y.ov then 0 else 1)
def pot (ws:List W8):Nat:=(ws.map pw).sum
theorem pot_set (ws:List W8) (i:Nat) (y:W8) (h:i<ws.length):pot (ws.set i y)+pw (ws.getD i w8z)=pot ws+pw y:=by
 induction ws generalizing i with
 | nil=>simp at h
 | cons x r ih=>
  cases i with
  | zero=>simp [pot];omega
  | succ i=>
   have:=ih i (by simpa using h)
   simp [pot] at this ⊢
   omega
theorem kn_same {fs:List F2} {ms:List G.M3} {ws ws':List W8} (h:ws.map key=ws'.map key) (n:ByteArray):(knW fs ms ws n).2=(knW fs ms ws' n).2:=by
 have hf:∀ l:List W8,(fndW l n).map key=(l.map key).find? fun q=>decide (q.1.nm=n):=fun l=>by
  rw [List.find?_map]
  rfl
 have e:(fndW ws n).map key=(fndW ws' n).map key:=by rw [hf,hf,h]
 unfold knW
 cases plF fs ms n with
 | some p=>rfl
 | none=>
  cases h1:fndW ws n <;> cases h2:fndW ws' n <;> rw [h1,h2] at e <;> simp [key] at e ⊢
  exact e.2.2
theorem step_pw {E:Env} {kn:ByteArray→R2×Bool} {x y:W8} (h:StepTo E kn x y) (hy:y.ls.length≤15):pw y≤pw x∧(((y.ov !=x.ov) || (y.ls.length !=x.ls.length))=true→pw y<pw x)∧(((y.ov !=x.ov) || (y.ls.length !=x.ls.length))=false→key y=key x):=by
 have hl:=h.pre.length_le
 cases hx:x.ov
 · cases hyo:y.ov
   · refine ⟨by simp [pw,hx,hyo];omega,fun c=>?_,fun c=>?_⟩
     · simp at c
       simp [pw,hx,hyo]
       omega
     simp at c
     have:x.ls=y.ls:=h.pre.eq_of_length c.symm
     simp [key,h.m,this,hx,hyo]
   exact ⟨by simp [pw,hx,hyo];omega,fun _=>by simp [pw,hx,hyo];omega,fun c=>by simp at c⟩
 have:=h.ovd hx
 subst this
 exact ⟨Nat.le_refl _,fun c=>by simp [hx] at c,fun _=>rfl⟩
def Blk (fs:List F2) (ms:List G.M3) (ws:List W8) (y:W8):Prop:=y.ov=false→(tn y.m y.ls).over=false∧(tn y.m y.ls).has=false∧(knW fs ms ws (tn y.m y.ls).name).2=false
theorem set_getD {ws:List W8} {i j:Nat} {y:W8} (hi:i<ws.length):(ws.set i y).getD j w8z=if i=j then y else ws.getD j w8z:=by
 simp only [List.getD_eq_getElem?_getD,List.getElem?_set]
 by_cases h:i=j
 · subst h;simp [hi]
 simp [h]
theorem key_set {ws:List W8} {i:Nat} {y:W8} (h:key y=key (ws.getD i w8z)):(ws.set i y).map key=ws.map key:=by
 apply List.ext_getElem?
 intro j
 rw [List.getElem?_map,List.getElem?_map,List.getElem?_set]
 by_cases hj:i=j
 · subst hj
   by_cases hl:i<ws.length
   · rw [if_pos rfl,if_pos hl,List.getElem?_eq_getElem hl]
     rw [List.getD_eq_getElem?_getD,List.getElem?_eq_getElem hl] at h
     simp at h ⊢
     exact h
   rw [if_pos rfl,if_neg hl,List.getElem?_eq_none (by omega)]
 rw [if_neg hj]
theorem A14.set {E:Env} {w:World} {tv:Value} {g n rc:Nat} {ws:List W8} {u u':World} (h:A14 E w tv (.slice (some ⟨g,0,none⟩) n rc) ws u) (hn:n=ws.length) {i:Nat} (hi:i<n) {y:W8} {xs:List Value} (hc:Cl u g 45 xs) (hc':Cl u' g 45 (putL xs (i*8) y.vs)) (ho:OnB g u u') (hy:WOk E y) (hl:LvAt u y) (hb:∀ k,y.lv.ownBlock=some k→k≠g):A14 E w tv (.slice (some ⟨g,0,none⟩) n rc) (ws.set i y) u':=by
 have hg:w.heap.size≤g:=(h.row.lt g rfl).1
 have hgt:∀ j,(ws.set i y).getD j w8z=if i=j then y else ws.getD j w8z:=fun j=>set_getD (by omega)
 have hr:=h.row
 rw [← hn] at hr
 refine ⟨h.t1.on ho ((h.t1.ne hc (by decide))),by rw [List.length_set,← hn];exact row_set hr hn hi y hc hc',fun j hj=>?_,fun j hj=>?_,fun j hj k e=>?_,h.bl.trans (ho.below hg)⟩
 · rw [hgt]
   split
   · exact hy
   exact h.ok j (by simpa using hj)
 · rw [hgt]
   split
   · exact hl.onB ho (fun _ k e=>hb k e) rfl rfl
   refine (h.lv j (by simpa using hj)).onB ho (fun _ k e=>?_) rfl rfl
   have:=h.nb j (by simpa using hj) k e
   simpa [Value.ownBlock,eq_comm] using this
 rw [hgt] at e
 split at e
 · have:=hb k e
   simpa [Value.ownBlock,eq_comm] using this
 exact h.nb j (by simpa using hj) k e
set_option maxHeartbeats 16000000 in
theorem c17 (E:Env) (a:Option Addr) (cap:Nat) (fs:List F2) (ms:List G.M3) (hE:E=envOf fs ms) (w:World) (hat:FilesAt w a fs) (ht:treeOk fs) (hp:IsPT fs ms):
 Calls Tryz.prog 17 #[.agg #[.slice a fs.length cap]] w fun e w'=>∃ (v:Value) (ws:List W8),e=.returned v∧A14 E w (.slice a fs.length cap) v ws w'∧ws.map (·.m)=ms.map toM∧(∀ i,i<ws.length→Blk fs ms ws (ws.getD i w8z)):=by
 have HAT:=hidI hat
 have HT:=hidI ht
 have HP:=hidI hp
 have HE:=hidI hE
 have HEE:Hid (EnvOk E):=by unfold Hid;rw [hE];exact envOk ht hp
 have hfl:fs.length≤1048576:=by have:=ht.1;omega
 have HF:=hidI (tree_le ht)
 have hml:=isPT_30 hp
 have HMM:Hid (∀ k,k<ms.length→toM (ms.getD k G.m3z)∈E.ms):=fun k hk=>by rw [hE];exact mem_toM.2 ⟨k,hk,rfl⟩
 clear hat ht hp hE
 go_enter Tryz.func17,Tryz.ntmps17
 go_wp2_with fail
 obtain ⟨w0,hw0⟩:∃ u:World,u=(w.alloc (.cells #[.slice a fs.length cap] 30)).alloc (.cells #[] 45):=⟨_,rfl⟩
 rw [← hw0]
 have hb0:Below w.heap.size w w0:=by rw [hw0];exact ((Below.refl _ _).alloc (Nat.le_refl _) _).alloc (by simp) _
 have H0:Hid (A14 E w (.slice a fs.length cap) (.slice (some ⟨w.heap.size+1,0,none⟩) 0 0) [] w0):=by
  refine ⟨?_,?_,fun i h=>absurd h (Nat.not_lt_zero _),fun i h=>absurd h (Nat.not_lt_zero _),fun i h=>absurd h (Nat.not_lt_zero _),hb0⟩
  · rw [hw0];exact cl_old (cl_new w [.slice a fs.length cap] 30) _
  rw [hw0]
  have:=World.ownsRow_made (base:=w.heap.size) (e:=45) (size:=8) (w.alloc (.cells #[.slice a fs.length cap] 30)) #[] 0 (by simp) (Nat.zero_le _) rfl
  simp only [World.size_alloc] at this
  exact this
 clear hw0
 refine (G.c30 a cap fs w0 hfl HF.out (G.T.files_below HAT.out hb0)).mono ?_
 rintro e w1 ⟨⟨ms',ma,mc,rfl,hmk,hpt⟩,hb1⟩
 obtain rfl:=G.isPT_one HP.out hpt
 have H1:=hidI (H0.out.below hb1)
 have HMK:=hidI hmk
 have hB1:Below w.heap.size w w1:=H1.out.bl
 clear hmk hpt hb1 H0 hb0
 go_wp2_with fail
 have HEX1:Hid (∀ j,w1.cell? ⟨w.heap.size+1,j,none⟩=none):=fun j=>by
  rcases H1.out.row.2 with ⟨hv,_⟩ | ⟨g,cap',cur,hv,_,hh,_,_,hs,_⟩
  · cases hv
  injection hv with hv _ hc
  injection hv with hv
  injection hv with hv _ _
  subst hv hc
  rw [Lib.cell_of_heap hh,Array.getElem?_eq_none (by omega)]
 go_loopw [3,5] (fun v3 v5 wr=>∃ k:Nat,k≤ms.length∧v5=.int .i64 k∧Hid (A14 E w (.slice a fs.length cap) v3 ((ms.take k).map wz) wr)∧Hid (Ex (fun k=>k=w.heap.size+1) w1 wr)∧Hid (v3.ownBlock=some (w.heap.size+1)∨∀ k,v3.ownBlock=some k→w1.heap.size≤k)) (fun _ v5 _=>ms.length - (intOf v5).toNat)
 case atStart=>exact ⟨0,Nat.zero_le _,rfl,H1.out,Ex.refl _ _,.inl rfl⟩
 case round=>
  obtain ⟨k,hk,rfl,HA,HXX,HVB⟩:=hrel
  have hlen:((ms.take k).map wz).length=k:=by simp;omega
  by_cases hlt:k<ms.length
  · rcases HMK.out with h0 | ⟨mb,mo,ha,hmb,hmc⟩
    · rw [h0] at hlt;exact absurd hlt (Nat.not_lt_zero _)
    subst ha
    have hne:mb≠w.heap.size+1:=fun e=>by
     have:=(hmc k hlt).1
     rw [e,HEX1.out] at this
     cases this
    have cc:∀ j,wr.cell? ⟨mb,j,none⟩=w1.cell? ⟨mb,j,none⟩:=fun j=>World.cell?_of_block (HXX.out.block mb hmb hne)
    have g0:=(cc _).trans (hmc k hlt).1
    have g1:=(cc _).trans (hmc k hlt).2.1
    have g2:=(cc _).trans (hmc k hlt).2.2
    have HMK':=hidI (HMM.out k hlt)
    have HTK:Hid ((ms.take (k+1)).map wz=(ms.take k).map wz++[wz (ms.getD k G.m3z)]):=by show _=_;rw [take_get hlt,List.map_append];rfl
    generalize ms.getD k G.m3z=m at*
    have HROW:Hid ((wr.alloc (.cells #[.string m.nm,.string m.tl,.string m.ar,.slice none 0 0,.bool false,.int .i64 0,.string ⟨#[]⟩,.string ⟨#[]⟩] 45)).ownsRow w.heap.size 45 8 u3 k (wysCells ((ms.take k).map wz))):=hidI (by have:=HA.out.row;rw [hlen] at this;exact this.alloc _)
    have HSRC:Hid (Src (wr.alloc (.cells #[.string m.nm,.string m.tl,.string m.ar,.slice none 0 0,.bool false,.int .i64 0,.string ⟨#[]⟩,.string ⟨#[]⟩] 45)) (.slice (some ⟨wr.heap.size,0,none⟩) 1 1) 8 1 (wz m).vs):=hidI (.inr ⟨⟨wr.heap.size,0,none⟩,1,rfl,rfl,cl_row (cl_new wr (wz m).vs 45)⟩)
    have H1C:Hid (∀ v∈(wz m).vs,v.oneCell'=true):=hidI (w8_one (wz m) rfl)
    have hba:w.heap.size≤(wr.alloc (.cells #[.string m.nm,.string m.tl,.string m.ar,.slice none 0 0,.bool false,.int .i64 0,.string ⟨#[]⟩,.string ⟨#[]⟩] 45)).heap.size:=by have:=HA.out.bl.size;simp;omega
    clear hmc cc
    go_wp2_with (refine wl_app rfl _ _ 48 rfl w.heap.size 45 8 Tryz.underlying48 inf45 (by decide) u3 k _ rfl HROW.out (.slice (some ⟨wr.heap.size,0,none⟩) 1 1) 1 (wz m).vs rfl HSRC.out H1C.out (by omega) hba ?_;intro v' w2 O2 gr2 at2;have HO2:=hidI O2;have HG2:=hidI gr2;have HA2:=hidI at2;clear O2 gr2 at2)
    have hal:Below wr.heap.size wr (wr.alloc (.cells #[.string m.nm,.string m.tl,.string m.ar,.slice none 0 0,.bool false,.int .i64 0,.string ⟨#[]⟩,.string ⟨#[]⟩] 45)):=(Below.refl _ _).alloc (Nat.le_refl _) _
    have HS2:Hid (A14 E w (.slice a fs.length cap) v' ((ms.take (k+1)).map wz) w2):=by
     show A14 _ _ _ _ _ _
     rw [HTK.out]
     exact HA.out.snoc HMK'.out hal HG2.out (by rw [hlen];exact HO2.out) (fun i _=>wz_ls _ _)
    have HX2:Hid (Ex (fun k=>k=w.heap.size+1) w1 w2):=by
     have hsz:=HXX.out.size
     refine ⟨HG2.out.os.trans HXX.out.os,HG2.out.tape.trans HXX.out.tape,HG2.out.output.trans HXX.out.output,Nat.le_trans hsz (Nat.le_trans hal.size HG2.out.size),fun q hq hne=>?_⟩
     refine (HG2.out.block q (by simp;omega) (fun e=>?_)).trans ((hal.block q (by omega)).trans (HXX.out.block q hq hne))
     rcases HVB.out with h | h
     · rw [h] at e;exact hne (Option.some.inj e)
     have:=h q e.symm;omega
    have HV2:Hid (v'.ownBlock=some (w.heap.size+1)∨∀ k,v'.ownBlock=some k→w1.heap.size≤k):=by
     have hsz:=HXX.out.size
     rcases HA2.out with h | h
     · rcases HVB.out with h' | h'
       · exact .inl (h.trans h')
       exact .inr (fun q e=>h' q (h.symm.trans e))
     refine .inr (fun q e=>?_)
     rw [h] at e
     have e:=Option.some.inj e
     simp at e
     omega
    clear HROW HSRC
    go_roundw
    case rel=>exact ⟨k+1,by omega,by go_num,HS2.out,HX2.out,HV2.out⟩
    case measure=>simp [intOf];omega
  obtain rfl:k=ms.length:=by omega
  have HA0:Hid (A14 E w (.slice a fs.length cap) u3 (ms.map wz) wr):=by have:=HA.out;rw [List.take_length] at this;exact this
  obtain ⟨ra,rc,hra0,_⟩:=row_wys HA0.out.row
  have hra:u3=.slice ra ms.length rc:=by rw [hra0];simp
  clear hra0
  subst hra
  clear HA HXX HVB HMK HEX1 H1 hlen
  go_wp2_with fail
  go_loopg [6] (pot (ms.map wz)+1) (fun n v6 wr=>∃ (ag:Bool) (ws:List W8),v6=.bool ag∧Hid (A14 E w (.slice a fs.length cap) (.slice ra ms.length rc) ws wr)∧Hid (ws.map (·.m)=ms.map toM)∧Hid (ws.length=ms.length)∧Hid (ag=true→pot ws+1≤n)∧Hid (ag=false→∀ i,i<ws.length→Blk fs ms ws (ws.getD i w8z)))
  case atStart=>exact ⟨true,ms.map wz,rfl,HA0.out,hidI (by simp [Function.comp_def,wz]),hidI (by simp),fun _=>Nat.le_refl _,(fun h=>by cases h)⟩
  case round=>
   obtain ⟨ag,ws,rfl,HA,HM,HN,HP1,HP2⟩:=hrel
   cases ag
   · have HR:=hidI (HP2.out rfl)
     clear HP1 HP2
     go_wp2
     go_ret
     exact ⟨_,ws,rfl,HA.out,HM.out,HR.out⟩
   go_wp2_with fail
   go_loopw [6,7] (fun v6 v7 wr=>∃ (i:Nat) (ag:Bool) (ws':List W8),v6=.bool ag∧v7=.int .i64 i∧i≤ms.length∧Hid (A14 E w (.slice a fs.length cap) (.slice ra ms.length rc) ws' wr)∧Hid (ws'.map (·.m)=ms.map toM)∧Hid (ws'.length=ms.length)∧Hid (pot ws'≤pot ws)∧Hid (ag=true→pot ws'<pot ws)∧Hid (ag=false→ws'.map key=ws.map key∧∀ j,j<i→Blk fs ms ws (ws'.getD j w8z))) (fun _ v7 _=>ms.length - (intOf v7).toNat)
   case atStart=>exact ⟨0,false,ws,rfl,rfl,Nat.zero_le _,HA.out,HM.out,HN.out,Nat.le_refl _,(fun h=>by cases h),fun _=>⟨rfl,fun j h=>absurd h (Nat.not_lt_zero _)⟩⟩
   case round=>
    obtain ⟨i,ag,ws',rfl,rfl,hi,HA1,HM1,HN1,HQ0,HQ1,HQ2⟩:=hrel
    by_cases hlt:i<ms.length
    · have hlt':i<ws'.length:=by rw [HN1.out];exact hlt
      have HROW:=HA1.out.row
      rcases HROW.2 with ⟨_,h0⟩ | ⟨g,cap',cur,hv,hgb,hh,_⟩
      · omega
      obtain rfl:ra=some ⟨g,0,none⟩:=by injection hv
      obtain ⟨ra',rc',hrv,HWS⟩:=row_wys HROW
      obtain rfl:some ⟨g,0,none⟩=ra':=by injection hrv
      have HWS:=hidI HWS
      have hx:=hidI (HA1.out.ok i hlt')
      have HLV:=hidI (HA1.out.lv i hlt')
      have HXN:=hidI (HA1.out.nb i hlt')
      have HGT:Hid (∀ y,(ws'.set i y).getD i w8z=y):=fun y=>by rw [set_getD hlt'];simp
      have HCELL:Hid (∀ u,Below wr.heap.size wr u→∀ j v,(ws'.getD i w8z).vs[j]?=some v→u.cell? ⟨g,i*8+j,none⟩=some v):=fun u hb j v e=>by
       rcases HWS.out with h0 | ⟨b,off,hab,hbl,hc⟩
       · rw [h0] at hlt';exact absurd hlt' (Nat.not_lt_zero _)
       injection hab with hab
       injection hab with h1 h2
       subst h1 h2
       have:=hc i hlt' j v e
       rw [Nat.zero_add] at this
       exact (hb.cell (p:=⟨g,i*8+j,none⟩) hbl).trans this
      have HGJ:Hid (∀ y j,i≠j→(ws'.set i y).getD j w8z=ws'.getD j w8z):=fun y j h=>by rw [set_getD hlt',if_neg h]
      have HPS:Hid (∀ y,pot (ws'.set i y)+pw (ws'.getD i w8z)=pot ws'+pw y):=fun y=>pot_set ws' i y hlt'
      have HKS:Hid (∀ y,key y=key (ws'.getD i w8z)→(ws'.set i y).map key=ws'.map key):=fun y h=>key_set h
      have HMS:Hid (∀ y,y.m=(ws'.getD i w8z).m→(ws'.set i y).map (·.m)=ws'.map (·.m)):=fun y h=>by
       apply List.ext_getElem?
       intro j
       rw [List.getElem?_map,List.getElem?_map,List.getElem?_set]
       by_cases hj:i=j
       · subst hj
         rw [if_pos rfl,if_pos hlt',List.getElem?_eq_getElem hlt']
         rw [List.getD_eq_getElem?_getD,List.getElem?_eq_getElem hlt'] at h
         simpa using h
       rw [if_neg hj]
      have hgw:g<wr.heap.size:=blk_lt hh
      have C1:=hidI HA1.out.t1
      obtain ⟨xa,xc,hxl,_,hxb⟩:=HLV.out
      have HXB:=hidI hxb
      generalize ws'.getD i w8z=x at*
      clear HROW hrv hv hh hgb hxb hlt'
      have hx3:=HCELL.out wr (Below.refl _ _) 3 _ rfl
      go_upto_region 13 with fail
      refine r13 E a cap fs ms HE.out w.heap.size g rc i ws' wr _ _ _ _ _ _ _ _ _ _ _ _ _ _ _ _ _ _ _ _ _ _ _ _ _ _ _ _ _ _ _ _ _ _ _ _ _ _ _ _ _ _ _ _ _ _ _ _ _ _ _ _ _ _ _ _ _ _ _ _ _ _ _ _ _ ?hq1 (hidI (G.T.files_below HAT.out HA1.out.bl)) HT.out HP.out (by rw [HN1.out];omega) HWS (hidI HA1.out.ok) ms.length (hidI HN1.out.symm) hlt x hx HLV HXB C1 (hidI (HCELL.out wr (Below.refl _ _))) hgw ?kk1
      case hq1=>exact fun _ _ d _ _ h=>by cases d <;> exact h
      intro t33 t34 t35 t36 t37 t38 t39 b8 y w2 hb8 hc8 hst hlv hnw hb2
      rw [putL_all (show y.vs.length=z8.length from rfl)] at hc8
      have HC8:=hidI hc8
      have HST:=hidI hst
      have HLY:=hidI hlv
      have HNW:=hidI hnw
      have hyl:y.ls.length≤15:=(hist_ok HEE.out (HEE.out.ms _ hst.ok.mem) hst.ok.his).1
      obtain ⟨ya,yc,hyv,_⟩:=hlv
      have m3:w2.cell? ⟨b8,3,none⟩=some (.slice ya y.ls.length yc):=hyv▸hc8.cell 3
      have m4:w2.cell? ⟨b8,4,none⟩=some (.bool y.ov):=hc8.cell 4
      have n3:w2.cell? ⟨g,i*8+3,none⟩=some (.slice xa x.ls.length xc):=hxl▸HCELL.out w2 hb2 3 _ rfl
      have n4:w2.cell? ⟨g,i*8+4,none⟩=some (.bool x.ov):=HCELL.out w2 hb2 4 _ rfl
      have HYV:=hidI hyv
      clear hc8 hst hnw hyv
      go_upto_region 14 with fail
      refine r14 g b8 i ms.length rc ag y.ov x.ov ya xa y.ls.length x.ls.length yc xc w2 _ _ _ _ _ _ _ _ _ _ _ _ _ _ _ _ _ _ _ _ _ _ _ _ _ _ _ _ _ _ _ _ _ _ _ _ _ _ _ _ _ _ _ _ _ _ _ _ _ _ _ _ _ _ _ _ _ _ _ _ _ _ _ _ ?hq2 hlt m4 m3 n4 n3 ?kk2
      case hq2=>exact fun _ _ d _ _ h=>by cases d <;> exact h
      intro t40 t41 t42 t43 t44 t45 t46 t47 t48 t49 t50 t51 t52 t53 t54 t55 t56 t57 t58 t59 t60 t61 t62 w3 hb3
      have hb23:Below wr.heap.size wr w3:=hb2.trans (hb3.mono hb2.size)
      have HA3:=hidI (HA1.out.below hb23)
      have HC83:=hidI (HC8.out.below hb3 HC8.out.lt)
      have HLY3:=hidI (HLY.out.below hb3)
      have hb8':g≠b8:=by omega
      obtain ⟨xs,HCG,hxs⟩:∃ xs,Hid (Cl w3 g 45 xs)∧i*8+8≤xs.length:=by
       rcases HA3.out.row.2 with ⟨_,h0⟩ | ⟨g',cap',cur,hv,hgb,hh,h1,h2,h3,h4⟩
       · rw [HN1.out] at h0;omega
       injection hv with hv _ _
       injection hv with hv
       injection hv with hv _ _
       subst hv
       refine ⟨cur.toList,by show Cl _ _ _ _;unfold Cl;simpa using hh,?_⟩
       rw [HN1.out] at h1
       simp
       omega
      have H1C:Hid (∀ v∈y.vs,v.oneCell'=true):=hidI (w8_one y (by rw [HYV.out];rfl))
      clear m3 m4 n3 n4 hb2 hb3 HC8
      obtain ⟨ag',HAG⟩:∃ b,Hid ((ag || (y.ov !=x.ov) || (y.ls.length !=x.ls.length))=b):=⟨_,rfl⟩
      rw [HAG.out]
      go_wp2_with (first | (refine wp_ld8 rfl _ rfl b8 rfl y.vs HC83.out rfl ?_) | (refine wl_stN rfl 45 _ _ rfl (B:=g) (j:=i*8) rfl (vs:=y.vs) rfl HCG.out (by rw [vs_len];omega) H1C.out (by kernel_rfl) ?_;intro w4 hc4 ho4;have HC4:=hidI hc4;have HO4:=hidI ho4;clear hc4 ho4))
      have HSET:=hidI (HA3.out.set HN1.out.symm hlt HCG.out HC4.out HO4.out HST.out.ok HLY3.out (fun k e=>by
       rcases HNW.out k e with h | h
       · have:=HXN.out k h
         intro c
         subst c
         exact this rfl
       omega))
      have hpw:=step_pw HST.out hyl
      have hpot:=HPS.out y
      have HZ1:Hid (ag'=true→pot (ws'.set i y)<pot ws):=fun c=>by
       have h0:=HQ0.out
       cases ag
       · have:=hpw.2.1 (by have:=HAG.out;rw [c] at this;simpa using this)
         omega
       have:=HQ1.out rfl
       omega
      have HZ2:Hid (ag'=false→(ws'.set i y).map key=ws.map key∧∀ j,j<i+1→Blk fs ms ws ((ws'.set i y).getD j w8z)):=fun c=>by
       have hag:=HAG.out
       rw [c] at hag
       cases ag
       · have hk:=hpw.2.2 (by simpa using hag)
         obtain ⟨q1,q2⟩:=HQ2.out rfl
         refine ⟨(HKS.out y hk).trans q1,fun j hj=>?_⟩
         by_cases hji:i=j
         · subst hji
           rw [HGT.out]
           intro ho
           obtain ⟨p1,p2,p3⟩:=HST.out.blk ho
           exact ⟨p1,p2,by rw [← kn_same q1];exact p3⟩
         rw [HGJ.out y j hji]
         exact q2 j (by omega)
       simp at hag
      have HZ0:Hid (pot (ws'.set i y)≤pot ws):=by have:=HQ0.out;show _≤_;omega
      have HZL:Hid ((ws'.set i y).length=ms.length):=by show _=_;rw [List.length_set];exact HN1.out
      have HZM:=hidI ((HMS.out y HST.out.m).trans HM1.out)
      clear hpw hpot
      go_roundw
      case rel=>exact ⟨i+1,ag',ws'.set i y,rfl,by go_num,by omega,HSET.out,HZM.out,HZL.out,HZ0.out,HZ1.out,HZ2.out⟩
      case measure=>simp [intOf];omega
    obtain rfl:i=ms.length:=by omega
    have hgk:=HP1.out (by trivial)
    go_wp2
    cases ag
    · go_roundg 0
      case measure=>omega
      case rel=>exact ⟨false,ws',rfl,HA1.out,HM1.out,HN1.out,(fun h=>by cases h),fun _ j hj=>by
       obtain ⟨q1,q2⟩:=HQ2.out rfl
       intro ho
       obtain ⟨p1,p2,p3⟩:=q2 j (by rw [← HN1.out];exact hj) ho
       exact ⟨p1,p2,by rw [kn_same q1];exact p3⟩⟩
    have:=HQ1.out rfl
    go_roundg (pot ws'+1)
    case measure=>omega
    case rel=>exact ⟨true,ws',rfl,HA1.out,HM1.out,HN1.out,fun _=>Nat.le_refl _,(fun h=>by cases h)⟩
end Go.Proofs.YtmalddmgdjkgaaaGreatDoor
namespace Go.Proofs.YtmalddmgdjkgaaaGreatDoor
open Go.RowKit
open G (plF IsPT)
open G.T (F2 f2z treeOk FilesAt)
set_option maxRecDepth 100000
set_option linter.unusedVariables false
theorem fnd_all {E:Env} (hE:EnvOk E) {ws:List W8} {ms:List G.M3} (hm:ws.map (·.m)=ms.map toM) (hms:E.ms=ms.map toM) {m:M.M3} (h:m∈E.ms):∃ z,fndW ws m.nm=some z∧z.m=m:=by
 rw [hms,← hm] at h
 obtain ⟨z,hz,rfl⟩:=List.mem_map.1 h
 cases hf:fndW ws z.m.nm with
 | none=>
  unfold fndW at hf
  have:=List.find?_eq_none.1 hf z hz
  simp at this
 | some y=>
  refine ⟨y,rfl,?_⟩
  obtain ⟨h1,i,hi,h2⟩:=fnd_mem hf
  have hy:y.m∈E.ms:=by
   rw [hms,← hm]
   refine List.mem_map.2 ⟨y,?_,rfl⟩
   rw [← h2]
   simp [List.getD,List.getElem?_eq_getElem hi]
  have hz':z.m∈E.ms:=by rw [hms,← hm];exact List.mem_map.2 ⟨z,hz,rfl⟩
  exact hE.one _ _ hy hz' h1
open Classical in
theorem looks_of {fs:List F2} {ms:List G.M3} (ht:treeOk fs) (hp:IsPT fs ms) {ws:List W8} (hok:∀ i,i<ws.length→WOk (envOf fs ms) (ws.getD i w8z)) (hm:ws.map (·.m)=ms.map toM) (hb:∀ i,i<ws.length→Blk fs ms ws (ws.getD i w8z)) (n:ByteArray):IsLk (envOf fs ms) n ((fndW ws n).elim [] (·.ls)):=by
 have hE:=envOk ht hp
 have hfa:∀ {m:M.M3},m∈(envOf fs ms).ms→∃ z,fndW ws m.nm=some z∧z.m=m∧WOk (envOf fs ms) z∧Blk fs ms ws z:=fun h=>by
  obtain ⟨z,h1,h2⟩:=fnd_all hE hm rfl h
  obtain ⟨_,i,hi,h3⟩:=fnd_mem h1
  exact ⟨z,h1,h2,h3▸hok i hi,h3▸hb i hi⟩
 cases hpl:plF fs ms n with
 | some p=>
  have h1:(envOf fs ms).pl n=some (ofP p):=by show (plF fs ms n).map ofP=_;rw [hpl];rfl
  refine .inl ⟨by rw [h1];simp,?_⟩
  cases hf:fndW ws n with
  | none=>rfl
  | some z=>
   obtain ⟨e1,i,hi,e2⟩:=fnd_mem hf
   have:=(hE.made n).2 ⟨z.m,e2▸(hok i hi).mem,e1⟩
   rw [h1] at this;cases this
 | none=>
  have hpn:(envOf fs ms).pl n=none:=pl_none.2 hpl
  obtain ⟨m,hmm,rfl⟩:=(hE.made n).1 hpn
  obtain ⟨z,hz,rfl,hzk,hzb⟩:=hfa hmm
  refine .inr ⟨z.m,hmm,rfl,by rw [hz];exact hzk.his,fun ls hh=>?_⟩
  have key:=closed_pre hE (D:=fun m=>m∈(envOf fs ms).ms) (O:=fun m=>(fndW ws m.nm).elim False (fun z=>z.ov=true)) (L:=fun m=>(fndW ws m.nm).elim [] (·.ls)) (fun m h=>h) (fun m h=>by
   obtain ⟨z,h1,rfl,h3,_⟩:=hfa h
   show Hist _ _ ((fndW ws z.m.nm).elim [] (·.ls))
   rw [h1]
   exact h3.his) (fun m h ho=>by
   obtain ⟨z,h1,rfl,h3,_⟩:=hfa h
   show (tn z.m ((fndW ws z.m.nm).elim [] (·.ls))).over=true
   rw [h1] at ho ⊢
   exact (h3.ov ho).1) (fun m h hno=>by
   obtain ⟨z,h1,rfl,h3,h4⟩:=hfa h
   show (tn z.m ((fndW ws z.m.nm).elim [] (·.ls))).over=false∧(tn z.m ((fndW ws z.m.nm).elim [] (·.ls))).has=false∧(envOf fs ms).pl (tn z.m ((fndW ws z.m.nm).elim [] (·.ls))).name=none∧∀ m',m'∈(envOf fs ms).ms→m'.nm=(tn z.m ((fndW ws z.m.nm).elim [] (·.ls))).name→m'∈(envOf fs ms).ms∧¬ (fndW ws m'.nm).elim False (fun z=>z.ov=true)
   rw [h1] at hno ⊢
   have hzo:z.ov=false:=by cases ho:z.ov;rfl;exact absurd ho hno
   obtain ⟨p1,p2,p3⟩:=h4 hzo
   have hpn:plF fs ms (tn z.m z.ls).name=none:=by
    cases hq:plF fs ms (tn z.m z.ls).name with
    | none=>rfl
    | some p=>unfold knW at p3;rw [hq] at p3;cases p3
   refine ⟨p1,p2,pl_none.2 hpn,fun m' hm' hn'=>⟨hm',?_⟩⟩
   obtain ⟨z',k1,rfl,k3,k4⟩:=hfa hm'
   rw [k1]
   intro ho
   have hn'':z'.m.nm=(tn z.m z.ls).name:=hn'
   rw [← hn''] at p3 hpn
   unfold knW at p3
   rw [hpn,k1] at p3
   have p3:z'.ov=false:=p3
   have ho:z'.ov=true:=ho
   rw [ho] at p3
   cases p3) hh hmm
  exact key
set_option maxHeartbeats 4000000 in
theorem c16 (wa:Option Addr) (wc:Nat) (ws:List W8) (nm:ByteArray) (w:World) (hlw:ws.length≤300) (hws:WysAt w wa ws) (hlv:∀ i,i<ws.length→∃ a n c,(ws.getD i w8z).lv=.slice a n c):
 Calls Tryz.prog 16 #[.slice wa ws.length wc,.string nm] w fun e w'=>e=.returned (.tuple #[.agg ((fndW ws nm).getD w8z).vs.toArray,.bool (fndW ws nm).isSome])∧Below w.heap.size w w':=by
 obtain ⟨b,off,hc⟩:=wys_some hws
 have HC:=hidI hc
 have HL:=hidI hlv
 have HN:Hid ((∀ j,j<ws.length→(ws.getD j w8z).m.nm≠nm)→fndW ws nm=none):=fun h=>fnd_none h
 have HY:Hid (∀ k,k<ws.length→(∀ j,j<k→(ws.getD j w8z).m.nm≠nm)→(ws.getD k w8z).m.nm=nm→fndW ws nm=some (ws.getD k w8z)):=fun k hk h1 h2=>fnd_at hk h1 h2
 obtain ⟨U,hU⟩:∃ U,U=w.alloc (.cells #[.string ⟨#[]⟩,.string ⟨#[]⟩,.string ⟨#[]⟩,.slice none 0 0,.bool false,.int .i64 0,.string ⟨#[]⟩,.string ⟨#[]⟩] 45):=⟨_,rfl⟩
 have HU:=hidI hU
 have hBU:Below w.heap.size w U:=by rw [hU];exact (Below.refl _ _).alloc (Nat.le_refl _) _
 have CU:Hid (Cl U w.heap.size 45 z8):=by show Cl _ _ _ _;rw [hU];exact cl_new w _ 45
 clear hws hc hlv hU
 go_enter Tryz.func16,Tryz.ntmps16
 go_wp2_with fail
 go_loopw [6] (fun vi wr=>∃ k:Nat,k≤ws.length∧vi=.int .i64 k∧wr=U∧Hid (∀ j,j<k→(ws.getD j w8z).m.nm≠nm)) (fun vi _=>ws.length - (intOf vi).toNat)
 case atStart=>exact ⟨0,Nat.zero_le _,rfl,HU.out.symm,fun j h=>absurd h (Nat.not_lt_zero _)⟩
 case round=>
  obtain ⟨k,hk,rfl,rfl,hdone⟩:=hrel
  by_cases hlt:k<ws.length
  · rcases HC.out with hss | ⟨ha,hbw,hcell⟩
    · rw [hss] at hlt;exact absurd hlt (Nat.not_lt_zero _)
    subst ha
    have g0:=(hBU.cell (p:=⟨b,off+k*8,none⟩) hbw).trans (hcell k hlt 0 _ rfl)
    have HX:Hid (∀ j v,(ws.getD k w8z).vs[j]?=some v→wr.cell? ⟨b,off+k*8+j,none⟩=some v):=fun j v e=>(hBU.cell (p:=⟨b,off+k*8+j,none⟩) hbw).trans (hcell k hlt j v e)
    obtain ⟨la,ln,lc,hlv⟩:=HL.out k hlt
    have HY':=hidI (HY.out k hlt hdone.out)
    have HD:Hid ((ws.getD k w8z).m.nm≠nm→∀ j,j<k+1→(ws.getD j w8z).m.nm≠nm):=fun h j hj=>by
     rcases Nat.lt_or_ge j k with h1 | h1
     · exact hdone.out j h1
     obtain rfl:j=k:=by omega
     exact h
    generalize ws.getD k w8z=x at*
    obtain ⟨⟨xn,xt,xa⟩,xl,xs,xo,xc,xx,xw⟩:=x
    dsimp only at*
    subst hlv
    clear hcell
    cases hq:(xn.toList==nm.toList)
    rotate_left
    · have hnm:xn=nm:=by
       have:=beq_iff_eq.1 hq
       rw [ByteArray.toList_eq,ByteArray.toList_eq] at this
       exact ByteArray.ext (Array.toList_inj.1 this)
      have HR:=hidI (HY'.out hnm)
      subst hnm
      clear HD HY' HY HN hdone HL
      go_wp2_with (first | (refine wl_val rfl (ex_ldN 45 _ rfl (B:=b) (j:=off+k*8) (cs:=[.string xn,.string xt,.string xa,.slice la ln lc,.bool xo,.int .i64 xc,.string xx,.string xw]) rfl HX.out Tryz.underlying45 rfl (by kernel_rfl)) ?_) | (refine wl_stN rfl 45 _ _ rfl (B:=w.heap.size) (j:=0) rfl (vs:=[.string xn,.string xt,.string xa,.slice la ln lc,.bool xo,.int .i64 xc,.string xx,.string xw]) rfl CU.out (by simp [z8]) (by intro v hv;simp at hv;rcases hv with rfl | rfl | rfl | rfl | rfl | rfl | rfl | rfl <;> rfl) (by kernel_rfl) ?_;intro w5 hc5 ho5;have HC5:=hidI hc5;have HO5:=hidI ho5;clear hc5 ho5))
      refine bodyPost_ret (results_blk_tmp (P:=Tryz.prog) (ty:=45) rfl _ _ w.heap.size _ _ rfl HC5.out.blk Tryz.underlying45 rfl (by kernel_rfl)) rfl ?_
      exact ⟨by rw [HR.out];rfl,hBU.trans (HO5.out.below (Nat.le_refl _))⟩
    have hnm:xn≠nm:=fun e=>by rw [e] at hq;simp at hq
    have HD':=hidI (HD.out hnm)
    clear HD HY' HY HN hdone HL HX
    go_wp2
    go_roundw
    case rel=>exact ⟨k+1,by omega,by go_num,trivial,HD'⟩
    case measure=>simp [intOf];omega
  have HR:=hidI (HN.out (fun j hj=>hdone.out j (by omega)))
  clear HY HN hdone HL
  go_wp2_with (refine wl_stN rfl 45 _ _ rfl (B:=w.heap.size) (j:=0) rfl (vs:=z8) rfl CU.out (by simp [z8]) (by intro v hv;simp [z8] at hv;rcases hv with rfl | rfl | rfl | rfl | rfl <;> rfl) (by kernel_rfl) ?_;intro w5 hc5 ho5;have HC5:=hidI hc5;have HO5:=hidI ho5;clear hc5 ho5)
  refine bodyPost_ret (results_blk_tmp (P:=Tryz.prog) (ty:=45) rfl _ _ w.heap.size _ _ rfl HC5.out.blk Tryz.underlying45 rfl (by kernel_rfl)) rfl ?_
  exact ⟨by rw [HR.out];rfl,hBU.trans (HO5.out.below (Nat.le_refl _))⟩
def RowL (base:Nat) (L:List M.L4) (e:Ending) (w':World):Prop:=∃ v,e=.returned v∧w'.ownsRow base 59 4 v L.length (lkCells L)
set_option maxHeartbeats 4000000 in
theorem c5y (a:Option Addr) (cap:Nat) (fs:List F2) (ms:List G.M3) (nm:ByteArray) (w:World) (hat:FilesAt w a fs) (ht:treeOk fs) (hp:IsPT fs ms) (hn:nameOk nm.data.toList=true):
 Calls Tryz.prog 5 #[.agg #[.slice a fs.length cap],.string nm] w fun e w'=>(∃ L,IsLk (envOf fs ms) nm L∧RowL w.heap.size L e w')∧Below w.heap.size w w':=by
 have HAT:=hidI hat
 have HT:=hidI ht
 have HP:=hidI hp
 have hfl:fs.length≤1048576:=by have:=ht.1;omega
 have HF:=hidI (tree_le ht)
 have hns:nm.size≤20:=name_le hn
 have hB0:∀ o1,Below w.heap.size w (w.alloc o1):=fun o1=>(Below.refl _ _).alloc (Nat.le_refl _) _
 clear hat ht hp
 go_enter Tryz.func5,Tryz.ntmps5
 go_wp2_with fail
 refine (G.T.c14 a cap fs _ hfl HF.out (G.T.files_below HAT.out (hB0 _))).mono ?_
 rintro e w1 ⟨⟨b,rfl,hb⟩,hb1⟩
 obtain rfl:b=true:=hb.2 HT.out
 have hB1:Below w.heap.size w w1:=(hB0 _).trans (hb1.mono (by simp))
 have t1:w1.cell? ⟨w.heap.size,0,none⟩=some (.slice a fs.length cap):=(hb1.cell (p:=⟨w.heap.size,0,none⟩) (by simp)).trans (by simp [go_sem])
 clear hb hb1 hB0
 go_wp2_with fail
 refine (G.T.c15 nm w1 (by omega)).mono ?_
 rintro e w2 ⟨he,rfl⟩
 have e':e=.returned (.bool true):=by rw [he];exact congrArg (fun b=>Ending.returned (.bool b)) hn
 subst e'
 clear he
 go_wp2_with fail
 refine (c17 (envOf fs ms) a cap fs ms rfl _ (G.T.files_below HAT.out hB1) HT.out HP.out).mono ?_
 rintro e x1 ⟨v,ws,rfl,hA,hM,hB⟩
 have hl1:ws.length=ms.length:=by have:=congrArg List.length hM;simpa using this
 obtain ⟨wa,wc,hv,hws⟩:=row_wys hA.row
 subst hv
 have HLN:Hid (ws.length≤300):=by have:=isPT_30 HP.out;show _≤_;omega
 have HLK:=hidI (looks_of HT.out HP.out hA.ok hM hB nm)
 have hBx:Below w.heap.size w x1:=hB1.trans (hA.bl.mono hB1.size)
 have HLV:Hid (∃ (z:W8) (la:Option Addr) (lc:Nat),(fndW ws nm).getD w8z=z∧(fndW ws nm).elim [] (·.ls)=z.ls∧z.lv=.slice la z.ls.length lc∧LvAt x1 z):=by
  cases hf:fndW ws nm with
  | none=>exact ⟨w8z,none,0,rfl,rfl,rfl,⟨none,0,rfl,.inl rfl,fun k e=>by cases e⟩⟩
  | some z=>
   obtain ⟨_,i,hi,e2⟩:=fnd_mem hf
   have h:=hA.lv i hi
   rw [e2] at h
   obtain ⟨la,lc,h1,h2,h3⟩:=h
   exact ⟨z,la,lc,rfl,rfl,h1,⟨la,lc,h1,h2,h3⟩⟩
 have h16:=c16 wa wc ws nm x1 HLN.out hws (fun i hi=>by obtain ⟨a,c,h,_⟩:=hA.lv i hi;exact ⟨a,_,c,h⟩)
 clear hA hM hB hl1 hws t1
 go_wp2_with fail
 refine h16.mono ?_
 rintro e x2 ⟨he,hb2⟩
 generalize (fndW ws nm).isSome=b at he
 subst he
 obtain ⟨z,la,lc,e1,e2,e3,hz⟩:=HLV.out
 rw [e1]
 rw [e2] at HLK
 have HZ:=hidI (hz.below hb2)
 obtain ⟨⟨xn,xt,xa⟩,xl,ls,xo,xc,xx,xw⟩:=z
 dsimp only at e3
 subst e3
 have hB2:Below w.heap.size w x2:=hBx.trans (hb2.mono hBx.size)
 have hll:ls.length≤15:=isLk_len (envOk HT.out HP.out) HLK.out
 clear h16 hb2 HLV e1 e2 hz hBx
 rw [show (W8.vs ⟨⟨xn,xt,xa⟩,.slice la ls.length lc,ls,xo,xc,xx,xw⟩).toArray=#[.string xn,.string xt,.string xa,.slice la ls.length lc,.bool xo,.int .i64 xc,.string xx,.string xw] from rfl]
 go_upto_region 4 with (refine wl_stN rfl 45 _ _ rfl (B:=x2.heap.size) (j:=0) rfl (vs:=[.string xn,.string xt,.string xa,.slice la ls.length lc,.bool xo,.int .i64 xc,.string xx,.string xw]) rfl (cl_new x2 z8 45) (by simp [z8]) (by intro v hv;simp at hv;rcases hv with rfl | rfl | rfl | rfl | rfl | rfl | rfl | rfl <;> rfl) (by kernel_rfl) ?_;intro x3 hc3 ho3)
 have hb3:Below x2.heap.size x2 x3:=((Below.refl _ _).alloc (Nat.le_refl _) _).trans (ho3.below (Nat.le_refl _))
 have hc3':Cl x3 x2.heap.size 45 [.string xn,.string xt,.string xa,.slice la ls.length lc,.bool xo,.int .i64 xc,.string xx,.string xw]:=hc3
 have hB3:Below w.heap.size w x3:=hB2.trans (hb3.mono hB2.size)
 have d3:x3.cell? ⟨x2.heap.size,3,none⟩=some (.slice la ls.length lc):=hc3'.cell 3
 have hal:Below x3.heap.size x3 (x3.alloc (.cells #[] 59)):=(Below.refl _ _).alloc (Nat.le_refl _) _
 have d3':(x3.alloc (.cells #[] 59)).cell? ⟨x2.heap.size,3,none⟩=some (.slice la ls.length lc):=(hal.cell (p:=⟨x2.heap.size,3,none⟩) hc3'.lt).trans d3
 have HSR:=hidI ((HZ.out.below hb3).src hal)
 have HRM:Hid ((x3.alloc (.cells #[] 59)).ownsRow w.heap.size 59 4 (.slice (some ⟨x3.heap.size,0,none⟩) 0 0) 0 []):=hidI (owns_mono (World.ownsRow_made x3 #[] 0 (Nat.le_refl _) (Nat.zero_le _) rfl) hB3.size)
 have HON:=hidI (lkCells_one ls)
 have hbs:w.heap.size≤(x3.alloc (.cells #[] 59)).heap.size:=by have:=hB3.size;simp;omega
 clear hc3 ho3 hc3' hb3 hB2 HZ
 go_wp2_with (refine wl_app rfl _ _ 26 rfl w.heap.size 59 4 Tryz.underlying26 inf59 (by decide) (.slice (some ⟨x3.heap.size,0,none⟩) 0 0) 0 [] rfl HRM.out _ ls.length (lkCells ls) rfl HSR.out HON.out (by omega) hbs ?_;intro v' w2 O2 g2 at2;have HO2:=hidI O2;have HG2:=hidI g2;clear O2 g2 at2)
 go_ret
 refine ⟨⟨ls,HLK.out,_,rfl,by have:=HO2.out;rw [Nat.zero_add,List.nil_append] at this;exact this⟩,?_⟩
 have hz:=hB3.size
 exact ⟨HG2.out.os.trans (hal.os.trans hB3.os),HG2.out.tape.trans (hal.tape.trans hB3.tape),HG2.out.output.trans (hal.output.trans hB3.output),Nat.le_trans hz (Nat.le_trans hal.size HG2.out.size),fun k hk=>(HG2.out.block k (by simp;omega) (fun e=>by have:k=x3.heap.size:=Option.some.inj e;omega)).trans ((hal.block k (by omega)).trans (hB3.block k hk))⟩
set_option maxHeartbeats 4000000 in
theorem c5n (a:Option Addr) (cap:Nat) (fs:List F2) (nm:ByteArray) (w:World) (hl:fs.length≤1048576) (hs:∀ i,(fs.getD i f2z).le 1048576) (hat:FilesAt w a fs) (hns:nm.size≤1048576) (hno:¬ treeOk fs∨nameOk nm.data.toList=false):
 Calls Tryz.prog 5 #[.agg #[.slice a fs.length cap],.string nm] w fun e w'=>RowL w.heap.size [] e w'∧Below w.heap.size w w':=by
 have HAT:=hidI hat
 have HF:=hidI hs
 have HN:=hidI hno
 have hB0:∀ o1,Below w.heap.size w (w.alloc o1):=fun o1=>(Below.refl _ _).alloc (Nat.le_refl _) _
 clear hat hs hno
 go_enter Tryz.func5,Tryz.ntmps5
 go_wp2_with fail
 refine (G.T.c14 a cap fs _ hl HF.out (G.T.files_below HAT.out (hB0 _))).mono ?_
 rintro e w1 ⟨⟨b,rfl,hb⟩,hb1⟩
 have hB1:Below w.heap.size w w1:=(hB0 _).trans (hb1.mono (by simp))
 have HE:Hid (RowL w.heap.size [] (.returned (.slice (some ⟨w1.heap.size,0,none⟩) 0 0)) (w1.alloc (.cells #[] 59))∧Below w.heap.size w (w1.alloc (.cells #[] 59))):=⟨⟨_,rfl,owns_mono (World.ownsRow_made w1 #[] 0 (Nat.le_refl _) (Nat.zero_le _) rfl) hB1.size⟩,hB1.alloc hB1.size _⟩
 have HBT:=hidI hb
 clear hb hb1 hB0
 cases b
 · go_wp2
   go_ret
   exact HE.out
 have hn:nameOk nm.data.toList=false:=by
  rcases HN.out with h | h
  · exact absurd (HBT.out.1 rfl) h
  exact h
 go_wp2_with fail
 refine (G.T.c15 nm w1 (by omega)).mono ?_
 rintro e w2 ⟨he,rfl⟩
 have e':e=.returned (.bool false):=by rw [he];exact congrArg (fun b=>Ending.returned (.bool b)) hn
 subst e'
 clear he
 go_wp2
 go_ret
 exact HE.out
end Go.Proofs.YtmalddmgdjkgaaaGreatDoor
