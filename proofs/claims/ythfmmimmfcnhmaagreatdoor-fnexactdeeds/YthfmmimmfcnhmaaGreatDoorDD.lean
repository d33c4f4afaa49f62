import Derived.Test.YthfmmimmfcnhmaaGreatDoorDB
set_option linter.unusedVariables false
set_option maxHeartbeats 8000000
set_option maxRecDepth 100000
namespace Go.Proofs.YthfmmimmfcnhmaaGreatDoor
open Proofs.Tryz
open Go.RowKit
open G.T (lt)
variable {l:List ByteArray} {B j:Nat} {v:Value} {u w:World}
theorem inf9:Inf prog 9 1:=inf_of (by kernel_rfl)
theorem nmC_get (h:(nmC l)[j]?=some v):j<l.length/\v=.string (l.getD j ⟨#[]⟩):=by
 unfold nmC at h
 rw [List.getElem?_map] at h
 obtain ⟨x,h1,h2⟩:=Option.map_eq_some_iff.1 h
 exact ⟨(List.getElem?_eq_some_iff.1 h1).1,by rw [<- h2];simp [List.getD,h1]⟩
theorem src_part {a:Option Addr} (hat:NmsAt w a l) (hb:Below w.heap.size w u) {i m:Nat} (hk:i+m<=l.length) (cap c:Nat) (hc:m=0\/cap≠i):Src u (.slice (if cap=i then a else a.map (·.add i)) m c) 1 m (nmC ((l.drop i).take m)):=by
 cases a with
 | none=>
  have hl:l=[]:=by
   rcases hat with h | ⟨b,off,h,_⟩
   · exact h
   cases h
  subst hl
  have:m=0:=by simp at hk;omega
  subst this
  exact .inl ⟨⟨c,by simp⟩,rfl,rfl⟩
 | some ad=>
  by_cases h0:m=0
  · subst h0
    refine .inr ⟨if cap=i then ad else ad.add i,c,?_,by simp [nmC],fun j v e=>by simp [nmC] at e⟩
    split <;> rfl
  have hne:cap≠i:=hc.resolve_left h0
  rw [if_neg hne]
  refine .inr ⟨ad.add i,c,rfl,by simp [nmC];omega,fun j v e=>?_⟩
  obtain ⟨hj,rfl⟩:=nmC_get e
  have hj':j<m:=by simp at hj;omega
  rcases hat with h | ⟨b,off,h1,h2,h3⟩
  · rw [h] at hk;simp at hk;omega
  obtain rfl:=Option.some.inj h1
  have:=(hb.cell (p:=⟨b,off+(i+j),none⟩) h2).trans (h3 (i+j) (by omega))
  rw [Addr.add_lit,Addr.add_lit,Nat.add_assoc,this]
  congr 2
  simp only [List.getD,List.getElem?_take,List.getElem?_drop,if_pos hj']
theorem gr_below {u':World} (h:Below B w u) (g:u.grownBy u' v.ownBlock) (hz:B<=u.heap.size) (hv:∀ k,v.ownBlock=some k->B<=k):Below B w u':=
 ⟨g.os.trans h.os,g.tape.trans h.tape,g.output.trans h.output,Nat.le_trans h.size g.size,fun k hk=>(g.block k (by omega) (fun e=>by have:=hv k e.symm;omega)).trans (h.block k hk)⟩
theorem r54t (base:Nat) (a:Option Addr) (cap k:Nat) (l:List ByteArray) (s:ByteArray) (w u:World) (u2 u3 u4 u6 u7 u8 u9 u10 u11 u12 u13 u14 u15 u16 u17 u18 u19 u20 u21 u22 u23 u24 u25 u26 u27 u28 u29 u30 u31 u32 u33 u40 u44:Value) (v36 v37 v43:Value) (g6 n:Nat) (L:Array Bool) (hL:L=#[true,true,true,true,true,true,true,false,true,true,true,false,false]) {Q:Exit->Act->World->Prop} (hQ:∀ c (a:Act) (d:Option Tmp) (v:Value) w,Q (.panic c) (a.put d v) w->Q (.panic c) a w) (hk:k<=l.length) (hl:l.length<=1000) (R:Hid (u.ownsRow base 9 1 v37 k (nmC (l.take k)))) (C:Hid (Cl u g6 9 [.string s])) (SR2:Hid (∀ u,Below w.heap.size w u->Src u v43 1 (l.length - k) (nmC (l.drop k)))) (Lu:Below w.heap.size w u) (hb:base<=w.heap.size) (hv:Hid (∀ k,v37.ownBlock=some k->w.heap.size<=k))
 (hKK:∀ (t33 t34 t35 t36 t37 t38 t39 t40 t41 t42 t43 t44 v':Value) (w':World),w'.ownsRow base 9 1 v' (l.take k++[s]++l.drop k).length (nmC (l.take k++[s]++l.drop k))->Below w.heap.size w w'->Q .normal { tmps:=#[.slice a l.length cap,.string s,u2,u3,v',.int .i64 (k:Int),u6,u7,u8,u9,u10,u11,u12,u13,u14,u15,u16,u17,u18,u19,u20,u21,u22,u23,u24,u25,u26,u27,u28,u29,u30,u31,u32,t33,t34,t35,t36,t37,t38,t39,t40,t41,t42,t43,t44],defers:=[] } w'):
 wpAnyH prog .any #[⟨some 33,.buildSlice 66 0 #[],66, "l4_want.go:153",#[],none⟩,⟨some 34,.move (.tmp 0),66, "l4_want.go:153",#[],none⟩,⟨some 35,.move (.tmp 5),3, "l4_want.go:153",#[],none⟩,⟨some 36,.slice 66 (.tmp 34) none (some (.tmp 35)) none,66, "l4_want.go:153",#[⟨1,.data⟩,⟨2,.data⟩],none⟩,⟨some 37,.call ⟨.builtin .append,#[.tmp 33,.tmp 36],#[66,66]⟩,66, "l4_want.go:153",#[⟨0,.data⟩,⟨3,.data⟩],none⟩,⟨some 38,.move (.tmp 1),9, "l4_want.go:153",#[],none⟩,⟨some 39,.buildSlice 66 1 #[(0,.tmp 38)],66, "l4_want.go:153",#[⟨5,.data⟩],none⟩,⟨some 40,.call ⟨.builtin .append,#[.tmp 37,.tmp 39],#[66,66]⟩,66, "l4_want.go:153",#[⟨4,.data⟩,⟨6,.data⟩,⟨4,.chain⟩],none⟩,⟨some 41,.move (.tmp 0),66, "l4_want.go:153",#[],none⟩,⟨some 42,.move (.tmp 5),3, "l4_want.go:153",#[],none⟩,⟨some 43,.slice 66 (.tmp 41) (some (.tmp 42)) none none,66, "l4_want.go:153",#[⟨8,.data⟩,⟨9,.data⟩],none⟩,⟨some 44,.call ⟨.builtin .append,#[.tmp 40,.tmp 43],#[66,66]⟩,66, "l4_want.go:153",#[⟨7,.data⟩,⟨10,.data⟩,⟨7,.chain⟩],none⟩,⟨some 4,.assign (.tmp 44),66, "l4_want.go:153",#[⟨11,.data⟩,⟨11,.chain⟩,⟨0,.phase⟩,⟨1,.phase⟩,⟨2,.phase⟩,⟨3,.phase⟩,⟨4,.phase⟩,⟨5,.phase⟩,⟨6,.phase⟩,⟨7,.phase⟩,⟨8,.phase⟩,⟨9,.phase⟩,⟨10,.phase⟩,⟨11,.phase⟩],none⟩] Q (fun _=>True) (n+3) L { tmps:=#[.slice a l.length cap,.string s,u2,u3,u4,.int .i64 (k:Int),u6,u7,u8,u9,u10,u11,u12,u13,u14,u15,u16,u17,u18,u19,u20,u21,u22,u23,u24,u25,u26,u27,u28,u29,u30,u31,u32,u33,.slice a l.length cap,.int .i64 (k:Int),v36,v37,.string s,.slice (some ⟨g6,0,none⟩) 1 1,u40,.slice a l.length cap,.int .i64 (k:Int),v43,u44],defers:=[] } u:=by
 subst hL
 have hb2:=Lu.size
 refine rq 7 (fun K hK=>?_)
 refine st_app rfl _ _ 66 rfl base 9 1 underlying66 inf9 (by decide) v37 k (nmC (l.take k)) rfl R.out (.slice (some ⟨g6,0,none⟩) 1 1) 1 [.string s] rfl (.inr ⟨⟨g6,0,none⟩,1,rfl,rfl,cl_row C.out⟩) (by intro u hu;simp at hu;subst hu;rfl) (by omega) (by omega) ?_
 intro v40 x1 O1 g1 at1
 have L1:=gr_below Lu g1 Lu.size hv.out
 have hv1:Hid (∀ k,v40.ownBlock=some k->w.heap.size<=k):=fun k e=>by
  rcases at1 with h | h
  · exact hv.out k (h▸e)
  rw [h] at e;have:=Option.some.inj e;omega
 have R1:=hidI O1
 clear O1 g1 at1
 refine hK.out _ _ trivial (fun hH=>?_)
 clear hK K
 try simp only [qq]
 refine rq 11 (fun K hK=>?_)
 refine st_app rfl _ _ 66 rfl base 9 1 underlying66 inf9 (by decide) v40 (k+1) (nmC (l.take k)++[.string s]) rfl R1.out v43 (l.length - k) (nmC (l.drop k)) rfl (SR2.out x1 L1) (nmC_one _) (by omega) (Nat.le_trans hb L1.size) ?_
 intro v44 x2 O2 g2 at2
 have L2:=gr_below L1 g2 L1.size hv1.out
 have R2:Hid (x2.ownsRow base 9 1 v44 (l.take k++[s]++l.drop k).length (nmC (l.take k++[s]++l.drop k))):=by
  show World.ownsRow _ _ _ _ _ _ _
  have e1:(l.take k++[s]++l.drop k).length=k+1+(l.length - k):=by simp;omega
  have e2:nmC (l.take k++[s]++l.drop k)=nmC (l.take k)++[.string s]++nmC (l.drop k):=by simp [nmC]
  rw [e1,e2];exact O2
 clear O2 g2 at2
 clear hH
 refine hK.out _ _ trivial (fun hH=>?_)
 clear hK K
 refine tq 12 hH ?_
 try simp only [qq]
 refine wpAnyH_done (by kernel_rfl) ?_ _
 exact hKK _ _ _ _ _ _ _ _ _ _ _ _ _ _ R2.out L2
theorem r54 (base:Nat) (a:Option Addr) (cap k:Nat) (l:List ByteArray) (s:ByteArray) (w:World) (u2 u3 u4 u6 u7 u8 u9 u10 u11 u12 u13 u14 u15 u16 u17 u18 u19 u20 u21 u22 u23 u24 u25 u26 u27 u28 u29 u30 u31 u32 u33 u34 u35 u36 u37 u38 u39 u40 u41 u42 u43 u44:Value) {Q:Exit->Act->World->Prop} (hQ:∀ c (a:Act) (d:Option Tmp) (v:Value) w,Q (.panic c) (a.put d v) w->Q (.panic c) a w) (hk:k<=l.length) (hl:l.length<=1000) (hc:l.length<=cap) (HR:Hid (NmsAt w a l)) (hb:base<=w.heap.size)
 (hKK:∀ (t33 t34 t35 t36 t37 t38 t39 t40 t41 t42 t43 t44 v':Value) (w':World),w'.ownsRow base 9 1 v' (l.take k++[s]++l.drop k).length (nmC (l.take k++[s]++l.drop k))->Below w.heap.size w w'->Q .normal { tmps:=#[.slice a l.length cap,.string s,u2,u3,v',.int .i64 (k:Int),u6,u7,u8,u9,u10,u11,u12,u13,u14,u15,u16,u17,u18,u19,u20,u21,u22,u23,u24,u25,u26,u27,u28,u29,u30,u31,u32,t33,t34,t35,t36,t37,t38,t39,t40,t41,t42,t43,t44],defers:=[] } w'):
 (Code.region 6 #[⟨some 33,.buildSlice 66 0 #[],66, "l4_want.go:153",#[],none⟩,⟨some 34,.move (.tmp 0),66, "l4_want.go:153",#[],none⟩,⟨some 35,.move (.tmp 5),3, "l4_want.go:153",#[],none⟩,⟨some 36,.slice 66 (.tmp 34) none (some (.tmp 35)) none,66, "l4_want.go:153",#[⟨1,.data⟩,⟨2,.data⟩],none⟩,⟨some 37,.call ⟨.builtin .append,#[.tmp 33,.tmp 36],#[66,66]⟩,66, "l4_want.go:153",#[⟨0,.data⟩,⟨3,.data⟩],none⟩,⟨some 38,.move (.tmp 1),9, "l4_want.go:153",#[],none⟩,⟨some 39,.buildSlice 66 1 #[(0,.tmp 38)],66, "l4_want.go:153",#[⟨5,.data⟩],none⟩,⟨some 40,.call ⟨.builtin .append,#[.tmp 37,.tmp 39],#[66,66]⟩,66, "l4_want.go:153",#[⟨4,.data⟩,⟨6,.data⟩,⟨4,.chain⟩],none⟩,⟨some 41,.move (.tmp 0),66, "l4_want.go:153",#[],none⟩,⟨some 42,.move (.tmp 5),3, "l4_want.go:153",#[],none⟩,⟨some 43,.slice 66 (.tmp 41) (some (.tmp 42)) none none,66, "l4_want.go:153",#[⟨8,.data⟩,⟨9,.data⟩],none⟩,⟨some 44,.call ⟨.builtin .append,#[.tmp 40,.tmp 43],#[66,66]⟩,66, "l4_want.go:153",#[⟨7,.data⟩,⟨10,.data⟩,⟨7,.chain⟩],none⟩,⟨some 4,.assign (.tmp 44),66, "l4_want.go:153",#[⟨11,.data⟩,⟨11,.chain⟩,⟨0,.phase⟩,⟨1,.phase⟩,⟨2,.phase⟩,⟨3,.phase⟩,⟨4,.phase⟩,⟨5,.phase⟩,⟨6,.phase⟩,⟨7,.phase⟩,⟨8,.phase⟩,⟨9,.phase⟩,⟨10,.phase⟩,⟨11,.phase⟩],none⟩] true).wp prog Q { tmps:=#[.slice a l.length cap,.string s,u2,u3,u4,.int .i64 (k:Int),u6,u7,u8,u9,u10,u11,u12,u13,u14,u15,u16,u17,u18,u19,u20,u21,u22,u23,u24,u25,u26,u27,u28,u29,u30,u31,u32,u33,u34,u35,u36,u37,u38,u39,u40,u41,u42,u43,u44],defers:=[] } w:=by
 obtain ⟨v36,hs1,SR1⟩:∃ v,(∀ u,(Instr.slice 66 (.slice a l.length cap) none (some (.int .i64 (k:Int))) none).run prog u=.ok v u)/\Hid (∀ u,Below w.heap.size w u->Src u v 1 k (nmC (l.take k))):=by
  refine ⟨.slice (if cap=0 then a else a.map (·.add 0)) k cap,fun u=>?_,fun u hu=>?_⟩
  · rw [run_slice_h u 66 a l.length cap (by kernel_rfl) .i64 k (by omega) (by omega),show prog.elem 66=9 from by kernel_rfl,Tryz.sizeOf9]
    simp [sliced,Result.andThen]
  exact src_part HR.out hu (i:=0) (m:=k) (by omega) cap cap (by omega)
 obtain ⟨v43,hs2,SR2⟩:∃ v,(∀ u,(Instr.slice 66 (.slice a l.length cap) (some (.int .i64 (k:Int))) none none).run prog u=.ok v u)/\Hid (∀ u,Below w.heap.size w u->Src u v 1 (l.length - k) (nmC (l.drop k))):=by
  refine ⟨.slice (if cap=k then a else a.map (·.add k)) (l.length - k) (cap - k),fun u=>?_,fun u hu=>?_⟩
  · rw [run_slice_l u 66 a l.length cap (by kernel_rfl) .i64 k (by omega) (by omega),show prog.elem 66=9 from by kernel_rfl,Tryz.sizeOf9]
    simp [sliced,Result.andThen]
  have:=src_part HR.out hu (i:=k) (m:=l.length - k) (by omega) cap (cap - k) (by omega)
  rw [List.take_of_length_le (by simp)] at this
  exact this
 refine wp_region_held_drew (S:=fun _=>True) (by kernel_rfl) trivial (fun hH=>?_)
 obtain ⟨x0,hx0⟩:∃ x:World,x=w.drew:=⟨_,rfl⟩
 rw [<- hx0]
 have Lx0:Below w.heap.size w x0:=by rw [hx0];exact (Below.refl _ w).drew
 clear hx0
 refine tq 1 hH ?_
 refine tq 2 hH ?_
 refine tq 3 hH ?_
 refine tq 5 hH ?_
 refine tq 8 hH ?_
 refine tq 9 hH ?_
 refine tq 10 hH ?_
 try simp only [qq]
 refine wpAnyH_ready (rs:=[0,6]) (by kernel_rfl) (by simp) (AllReadyH.cons (o:=⟨some 33,.buildSlice 66 0 #[],66,_,_,none⟩) rfl (fun K hK=>?_) (AllReadyH.cons (o:=⟨some 39,.buildSlice 66 1 #[(0,.tmp 38)],66,_,_,none⟩) rfl (fun K hK=>?_) AllReadyH.nil))
 · go_simp
   obtain ⟨x1,hx1⟩:∃ x:World,x=x0.alloc (.cells #[] 9):=⟨_,rfl⟩
   rw [<- hx1]
   have Bx1:Below x0.heap.size x0 x1:=by rw [hx1];exact (Below.refl _ _).alloc (Nat.le_refl _) _
   have R33:Hid (x1.ownsRow base 9 1 (.slice (some ⟨x0.heap.size,0,none⟩) 0 0) 0 []):=by show World.ownsRow _ _ _ _ _ _ _;rw [hx1];exact owns_mono (World.ownsRow_made x0 #[] 0 (Nat.le_refl _) (Nat.zero_le _) rfl) (Nat.le_trans hb Lx0.size)
   have Lx1:Below w.heap.size w x1:=Lx0.trans (Bx1.mono Lx0.size)
   have z33:w.heap.size<=x0.heap.size:=Lx0.size
   have y33:x0.heap.size<x1.heap.size:=by rw [hx1];simp
   clear hx1
   clear hH
   refine hK.out _ _ trivial (fun hH=>?_)
   clear hK K
   try simp only [qq]
   refine wpAnyH_ready (rs:=[4,6]) (by kernel_rfl) (by simp) (AllReadyH.cons (o:=⟨some 37,.call ⟨.builtin .append,#[.tmp 33,.tmp 36],#[66,66]⟩,66,_,_,none⟩) rfl (fun K hK=>?_) (AllReadyH.cons (o:=⟨some 39,.buildSlice 66 1 #[(0,.tmp 38)],66,_,_,none⟩) rfl (fun K hK=>?_) AllReadyH.nil))
   · refine st_app rfl _ _ 66 rfl base 9 1 underlying66 inf9 (by decide) (.slice (some ⟨x0.heap.size,0,none⟩) 0 0) 0 [] rfl R33.out v36 k (nmC (l.take k)) rfl (SR1.out x1 Lx1) (nmC_one _) (by omega) (Nat.le_trans hb Lx1.size) ?_
     intro v37 x2 O4 (g4:x1.grownBy x2 (some x0.heap.size)) at4
     have Lx2:Below w.heap.size w x2:=gr_below (v:=.slice (some ⟨x0.heap.size,0,none⟩) 0 0) Lx1 g4 Lx1.size (fun k e=>by have:=Option.some.inj e;have:x0.heap.size=k:=this;omega)
     have R37:Hid (x2.ownsRow base 9 1 v37 k (nmC (l.take k))):=by have:=O4;rw [Nat.zero_add,List.nil_append] at this;exact this
     have V37:Hid (∀ k,v37.ownBlock=some k->w.heap.size<=k):=fun k e=>by
      rcases at4 with h | h
      · rw [h] at e;have:x0.heap.size=k:=Option.some.inj e;omega
      rw [h] at e;have:=Option.some.inj e;have:=Lx1.size;omega
     clear O4 g4 at4
     clear hH
     refine hK.out _ _ trivial (fun hH=>?_)
     clear hK K
     try simp only [qq]
     refine rq 6 (fun K hK=>?_)
     go_simp
     obtain ⟨x3,hx3⟩:∃ x:World,x=x2.alloc (.cells #[.string s] 9):=⟨_,rfl⟩
     rw [<- hx3]
     have Bx3:Below x2.heap.size x2 x3:=by rw [hx3];exact (Below.refl _ _).alloc (Nat.le_refl _) _
     have C6:Hid (Cl x3 x2.heap.size 9 [.string s]):=by show Cl _ _ _ _;rw [hx3];exact cl_new x2 _ 9
     have Lx3:Below w.heap.size w x3:=Lx2.trans (Bx3.mono Lx2.size)
     clear hx3
     have R37:=hidI (ownsRow_below R37.out Bx3)
     clear hH
     refine hK.out _ _ trivial (fun hH=>?_)
     clear hK K
     try simp only [qq]
     exact r54t base a cap k l s w x3 _ _ _ _ _ _ _ _ _ _ _ _ _ _ _ _ _ _ _ _ _ _ _ _ _ _ _ _ _ _ _ _ _ v36 _ v43 x2.heap.size _ _ (by kernel_rfl) hQ hk hl R37 C6 SR2 Lx3 hb V37 hKK
   go_simp
   obtain ⟨x2,hx2⟩:∃ x:World,x=x1.alloc (.cells #[.string s] 9):=⟨_,rfl⟩
   rw [<- hx2]
   have Bx2:Below x1.heap.size x1 x2:=by rw [hx2];exact (Below.refl _ _).alloc (Nat.le_refl _) _
   have C6:Hid (Cl x2 x1.heap.size 9 [.string s]):=by show Cl _ _ _ _;rw [hx2];exact cl_new x1 _ 9
   have Lx2:Below w.heap.size w x2:=Lx1.trans (Bx2.mono Lx1.size)
   clear hx2
   have R33:=hidI (ownsRow_below R33.out Bx2)
   clear hH
   refine hK.out _ _ trivial (fun hH=>?_)
   clear hK K
   try simp only [qq]
   refine rq 4 (fun K hK=>?_)
   refine st_app rfl _ _ 66 rfl base 9 1 underlying66 inf9 (by decide) (.slice (some ⟨x0.heap.size,0,none⟩) 0 0) 0 [] rfl R33.out v36 k (nmC (l.take k)) rfl (SR1.out x2 Lx2) (nmC_one _) (by omega) (Nat.le_trans hb Lx2.size) ?_
   intro v37 x3 O4 (g4:x2.grownBy x3 (some x0.heap.size)) at4
   have Lx3:Below w.heap.size w x3:=gr_below (v:=.slice (some ⟨x0.heap.size,0,none⟩) 0 0) Lx2 g4 Lx2.size (fun k e=>by have:=Option.some.inj e;have:x0.heap.size=k:=this;omega)
   have R37:Hid (x3.ownsRow base 9 1 v37 k (nmC (l.take k))):=by have:=O4;rw [Nat.zero_add,List.nil_append] at this;exact this
   have V37:Hid (∀ k,v37.ownBlock=some k->w.heap.size<=k):=fun k e=>by
    rcases at4 with h | h
    · rw [h] at e;have:x0.heap.size=k:=Option.some.inj e;omega
    rw [h] at e;have:=Option.some.inj e;have:=Lx2.size;omega
   have C6:=hidI (C6.out.gb g4 (by intro e;have:x1.heap.size=x0.heap.size:=Option.some.inj e;omega))
   clear O4 g4 at4
   clear hH
   refine hK.out _ _ trivial (fun hH=>?_)
   clear hK K
   try simp only [qq]
   exact r54t base a cap k l s w x3 _ _ _ _ _ _ _ _ _ _ _ _ _ _ _ _ _ _ _ _ _ _ _ _ _ _ _ _ _ _ _ _ _ v36 _ v43 x1.heap.size _ _ (by kernel_rfl) hQ hk hl R37 C6 SR2 Lx3 hb V37 hKK
 go_simp
 obtain ⟨x1,hx1⟩:∃ x:World,x=x0.alloc (.cells #[.string s] 9):=⟨_,rfl⟩
 rw [<- hx1]
 have Bx1:Below x0.heap.size x0 x1:=by rw [hx1];exact (Below.refl _ _).alloc (Nat.le_refl _) _
 have C6:Hid (Cl x1 x0.heap.size 9 [.string s]):=by show Cl _ _ _ _;rw [hx1];exact cl_new x0 _ 9
 have Lx1:Below w.heap.size w x1:=Lx0.trans (Bx1.mono Lx0.size)
 clear hx1
 clear hH
 refine hK.out _ _ trivial (fun hH=>?_)
 clear hK K
 try simp only [qq]
 refine rq 0 (fun K hK=>?_)
 go_simp
 obtain ⟨x2,hx2⟩:∃ x:World,x=x1.alloc (.cells #[] 9):=⟨_,rfl⟩
 rw [<- hx2]
 have Bx2:Below x1.heap.size x1 x2:=by rw [hx2];exact (Below.refl _ _).alloc (Nat.le_refl _) _
 have R33:Hid (x2.ownsRow base 9 1 (.slice (some ⟨x1.heap.size,0,none⟩) 0 0) 0 []):=by show World.ownsRow _ _ _ _ _ _ _;rw [hx2];exact owns_mono (World.ownsRow_made x1 #[] 0 (Nat.le_refl _) (Nat.zero_le _) rfl) (Nat.le_trans hb Lx1.size)
 have Lx2:Below w.heap.size w x2:=Lx1.trans (Bx2.mono Lx1.size)
 have z33:w.heap.size<=x1.heap.size:=Lx1.size
 have y33:x1.heap.size<x2.heap.size:=by rw [hx2];simp
 clear hx2
 have z61:x0.heap.size<x1.heap.size:=C6.out.lt
 have C6:=hidI (C6.out.below Bx2 C6.out.lt)
 clear hH
 refine hK.out _ _ trivial (fun hH=>?_)
 clear hK K
 try simp only [qq]
 refine rq 4 (fun K hK=>?_)
 refine st_app rfl _ _ 66 rfl base 9 1 underlying66 inf9 (by decide) (.slice (some ⟨x1.heap.size,0,none⟩) 0 0) 0 [] rfl R33.out v36 k (nmC (l.take k)) rfl (SR1.out x2 Lx2) (nmC_one _) (by omega) (Nat.le_trans hb Lx2.size) ?_
 intro v37 x3 O4 (g4:x2.grownBy x3 (some x1.heap.size)) at4
 have Lx3:Below w.heap.size w x3:=gr_below (v:=.slice (some ⟨x1.heap.size,0,none⟩) 0 0) Lx2 g4 Lx2.size (fun k e=>by have:=Option.some.inj e;have:x1.heap.size=k:=this;omega)
 have R37:Hid (x3.ownsRow base 9 1 v37 k (nmC (l.take k))):=by have:=O4;rw [Nat.zero_add,List.nil_append] at this;exact this
 have V37:Hid (∀ k,v37.ownBlock=some k->w.heap.size<=k):=fun k e=>by
  rcases at4 with h | h
  · rw [h] at e;have:x1.heap.size=k:=Option.some.inj e;omega
  rw [h] at e;have:=Option.some.inj e;have:=Lx2.size;omega
 have C6:=hidI (C6.out.gb g4 (by intro e;have:x0.heap.size=x1.heap.size:=Option.some.inj e;omega))
 clear O4 g4 at4
 clear hH
 refine hK.out _ _ trivial (fun hH=>?_)
 clear hK K
 try simp only [qq]
 exact r54t base a cap k l s w x3 _ _ _ _ _ _ _ _ _ _ _ _ _ _ _ _ _ _ _ _ _ _ _ _ _ _ _ _ _ _ _ _ _ v36 _ v43 x0.heap.size _ _ (by kernel_rfl) hQ hk hl R37 C6 SR2 Lx3 hb V37 hKK
theorem c54 (base:Nat) (v:Value) (l:List ByteArray) (s:ByteArray) (w:World) (h:w.ownsRow base 9 1 v l.length (nmC l)) (hl:l.length<=1000) (hb:base<=w.heap.size):
 Calls prog 54 #[v,.string s] w fun e w'=>(∃ v',e=.returned v'/\w'.ownsRow base 9 1 v' (putN l s).length (nmC (putN l s)))/\Below w.heap.size w w':=by
 have HR:=hidI h
 obtain ⟨a,cap,hv,hat⟩:=row_nms h
 subst hv
 have hcap:l.length<=cap:=by
  rcases h.2 with ⟨e,h0⟩ | ⟨g,c,cur,e,_,_,hc,_⟩
  · omega
  injection e with _ _ e
  omega
 have HAT:=hidI hat
 obtain ⟨b,off,hc⟩:=nms_some hat
 have HC:=hidI hc
 clear h hat hc
 go_enter func54,ntmps54
 go_wp2_with fail
 go_loopw [5] (fun vi wr=>∃ k:Nat,k<=l.length/\vi=.int .i64 k/\wr=w/\Hid (∀ j,j<k->lt (l.getD j ⟨#[]⟩) s=true)) (fun vi _=>l.length - (intOf vi).toNat)
 case atStart=>exact ⟨0,Nat.zero_le _,rfl,rfl,fun j h=>absurd h (Nat.not_lt_zero _)⟩
 obtain ⟨k,hk,rfl,rfl,hd⟩:=hrel
 by_cases hlt:k<l.length
 rotate_left
 · obtain rfl:k=l.length:=by omega
   have HK':Hid (kP l s=l.length):=kP_eq l s _ (Nat.le_refl _) hd.out (fun h=>by omega)
   have HP:Hid (putN l s=l.take l.length++[s]++l.drop l.length):=by show _=_;unfold putN;rw [HK'.out,if_neg (by simp)]
   clear hd HK'
   go_upto_region 6 with fail
   try simp only [qq]
   refine r54 base a cap l.length l s wr _ _ _ _ _ _ _ _ _ _ _ _ _ _ _ _ _ _ _ _ _ _ _ _ _ _ _ _ _ _ _ _ _ _ _ _ _ _ _ _ _ _ ?hq2 (Nat.le_refl _) hl hcap HAT hb ?kk2
   case hq2=>exact fun _ _ d _ _ h=>by cases d <;> exact h
   intro t33 t34 t35 t36 t37 t38 t39 t40 t41 t42 t43 t44 v' w' hr hb'
   have HRR:=hidI hr
   have HBB:=hidI hb'
   clear hr hb'
   go_wp2
   go_ret
   exact ⟨⟨_,rfl,by rw [HP.out];exact HRR.out⟩,HBB.out⟩
 rcases HC.out with hss | ⟨ha,hbw,hcell⟩
 · rw [hss] at hlt;exact absurd hlt (Nat.not_lt_zero _)
 subst ha
 have g0:=hcell k hlt
 have HD:Hid (lt (l.getD k ⟨#[]⟩) s=true->∀ j,j<k+1->lt (l.getD j ⟨#[]⟩) s=true):=fun h j hj=>by
  rcases Nat.lt_or_ge j k with h1 | h1
  · exact hd.out j h1
  obtain rfl:j=k:=by omega
  exact h
 have HK:Hid (lt (l.getD k ⟨#[]⟩) s=false->kP l s=k):=fun h=>kP_eq l s k hk hd.out (fun _=>h)
 have HG:Hid (l[k]?=some (l.getD k ⟨#[]⟩)):=by show _=_;simp [List.getD,List.getElem?_eq_getElem hlt]
 generalize l.getD k ⟨#[]⟩=x at*
 clear hcell
 cases hx:Op.bytesLess x.toList s.toList
 rotate_left
 · have HD':=hidI (HD.out hx)
   clear HD HK HG hd
   go_wp2
   go_roundw
   case rel=>exact ⟨k+1,by omega,by go_num,trivial,HD'⟩
   case measure=>simp [intOf];omega
 have HK':=hidI (HK.out hx)
 cases hq:(x.toList==s.toList)
 rotate_left
 · have hnm:x=s:=by
    have:=beq_iff_eq.1 hq
    rw [ByteArray.toList_eq,ByteArray.toList_eq] at this
    exact ByteArray.ext (Array.toList_inj.1 this)
   have HP:Hid (putN l s=l):=by show _=_;unfold putN;rw [HK'.out,HG.out,hnm,if_pos rfl]
   clear HD HK HG hd HK'
   subst hnm
   go_wp2
   go_ret
   exact ⟨⟨_,rfl,by rw [HP.out];exact HR.out⟩,Below.refl _ _⟩
 have hnm:x≠s:=fun e=>by rw [e] at hq;simp at hq
 have HP:Hid (putN l s=l.take k++[s]++l.drop k):=by show _=_;unfold putN;rw [HK'.out,HG.out,if_neg (fun e=>hnm (Option.some.inj e))]
 clear HD HK HG hd HK'
 go_upto_region 6 with fail
 try simp only [qq]
 refine r54 base (some ⟨b,off,none⟩) cap k l s wr _ _ _ _ _ _ _ _ _ _ _ _ _ _ _ _ _ _ _ _ _ _ _ _ _ _ _ _ _ _ _ _ _ _ _ _ _ _ _ _ _ _ ?hq1 hk hl hcap HAT hb ?kk1
 case hq1=>exact fun _ _ d _ _ h=>by cases d <;> exact h
 intro t33 t34 t35 t36 t37 t38 t39 t40 t41 t42 t43 t44 v' w' hr hb'
 have HRR:=hidI hr
 have HBB:=hidI hb'
 clear hr hb'
 go_wp2
 go_ret
 exact ⟨⟨_,rfl,by rw [HP.out];exact HRR.out⟩,HBB.out⟩
end Go.Proofs.YthfmmimmfcnhmaaGreatDoor
namespace Go.Proofs.YthfmmimmfcnhmaaGreatDoor
open Go.RowKit
open G.T (lt)
variable {E:Env} {nm s wt:ByteArray} {C C0:List ByteArray} {ls:List M.L4} {base j:Nat}
structure Cn (E:Env) (nm:ByteArray) (C0 C:List ByteArray):Prop where
 asc:AscN C
 sub:∀ k∈C0,k∈C
 rch:∀ k∈C,Rch E nm k
 len:C0.length<=C.length
theorem Cn.put (h:Cn E nm C0 C) (hs:Rch E nm s):Cn E nm C0 (putN C s):=
 ⟨putN_asc h.asc s,fun k hk=>(putN_mem _ _ _).2 (.inl (h.sub k hk)),fun k hk=>((putN_mem _ _ _).1 hk).elim (h.rch k) (fun e=>e▸hs),Nat.le_trans h.len (putN_len C s).1⟩
theorem Cn.back (h:Cn E nm C0 C) (h0:AscN C0) (hl:¬ C0.length<C.length):∀ k∈C,k∈C0:=fun k hk=>Classical.byContradiction fun hn=>by
 have:=nodup_len (List.nodup_cons.2 ⟨hn,asc_nodup h0⟩) (l':=C) (fun x hx=>by
  rcases List.mem_cons.1 hx with rfl | hx
  · exact hk
  exact h.sub x hx)
 rw [List.length_cons] at this
 omega
def Wys (E:Env) (ws:List W8):Prop:=(∀ i,i<ws.length->∀ k∈askL (ws.getD i w8z).ls (ws.getD i w8z).wt,Ask E (ws.getD i w8z).m.nm k)/\∀ n k,Ask E n k->∃ i,i<ws.length/\(ws.getD i w8z).m.nm=n/\k∈askL (ws.getD i w8z).ls (ws.getD i w8z).wt
theorem ask_look (hj:j<ls.length) (h:(ls.getD j M.l4z).has=false):(ls.getD j M.l4z).nm∈askL ls wt:=by
 refine List.mem_append_left _ (List.mem_map.2 ⟨ls.getD j M.l4z,List.mem_filter.2 ⟨by simp [List.getD,List.getElem?_eq_getElem hj],by rw [h];rfl⟩,rfl⟩)
theorem ask_all (h:∀ j,j<ls.length->(ls.getD j M.l4z).has=false->(ls.getD j M.l4z).nm∈C) (hw:wt≠⟨#[]⟩->wt∈C):∀ k∈askL ls wt,k∈C:=fun k hk=>by
 rcases List.mem_append.1 hk with hk | hk
 · obtain ⟨x,hx,rfl⟩:=List.mem_map.1 hk
   obtain ⟨hx,hh⟩:=List.mem_filter.1 hx
   obtain ⟨j,hj,rfl⟩:=List.getElem_of_mem hx
   have:=h j hj
   simp only [List.getD,List.getElem?_eq_getElem hj,Option.getD_some] at this
   exact this (by simpa using hh)
 split at hk
 · cases hk
 rename_i hne
 rw [List.mem_singleton.1 hk]
 exact hw hne
theorem ask_wt (h:wt≠⟨#[]⟩):wt∈askL ls wt:=List.mem_append_right _ (by rw [if_neg h];exact List.mem_singleton.2 rfl)
theorem row_one (w:World) (x:Value) (e:TypeId) (hb:base<=w.heap.size):(w.alloc (.cells #[x] e)).ownsRow base e 1 (.slice (some ⟨w.heap.size,0,none⟩) 1 1) 1 [x]:=
 ⟨rfl,.inr ⟨w.heap.size,1,#[x],rfl,hb,heap_alloc_new w _,Nat.le_refl _,by decide,rfl,rfl⟩⟩
theorem c33 (E:Env) (hE:EnvOk E) (hms:E.ms.length<=30) (wa:Option Addr) (wc:Nat) (ws:List W8) (nm:ByteArray) (w:World) (hlw:ws.length<=300) (hws:WysAt w wa ws) (hlv:∀ i,i<ws.length->LvAt w (ws.getD i w8z)/\(ws.getD i w8z).ls.length<=15) (hw:Wys E ws):
 Calls Tryz.prog 33 #[.slice wa ws.length wc,.string nm] w fun e w'=>(∃ v,e=.returned v/\∃ C,w'.ownsRow w.heap.size 9 1 v C.length (nmC C)/\AscN C/\∀ k,k∈C↔Rch E nm k)/\Below w.heap.size w w':=by
 have HE:=hidI hE
 have HMS:=hidI hms
 have HW:=hidI hw
 have HL:=hidI hlv
 obtain ⟨b,off,hc⟩:=wys_some hws
 have HC:=hidI hc
 have LEN:Hid (∀ C0 C,Cn E nm C0 C->C.length<=481):=fun C0 C h=>rch_len HE.out HMS.out (asc_nodup h.asc) h.rch
 clear hE hms hw hlv hws hc
 go_enter Tryz.func33,Tryz.ntmps33
 go_upto_region 2 with fail
 obtain ⟨u0,hu0⟩:∃ u:World,u=w.alloc (.cells #[.string nm] 9):=⟨_,rfl⟩
 rw [<- hu0]
 have R0:Hid (u0.ownsRow w.heap.size 9 1 (.slice (some ⟨w.heap.size,0,none⟩) 1 1) [nm].length (nmC [nm])):=by show World.ownsRow _ _ _ _ _ _ _;rw [hu0];exact row_one w _ 9 (Nat.le_refl _)
 have B0:Hid (Below w.heap.size w u0):=by show Below _ _ _;rw [hu0];exact (Below.refl _ _).alloc (Nat.le_refl _) _
 clear hu0
 go_wp2_with fail
 go_loopg [5,6] 483 (fun n v5 v6 wr=>∃ (ag:Bool) (C:List ByteArray) (va:Option Addr) (vc:Nat),v5=.slice va C.length vc/\v6=.bool ag/\Hid (wr.ownsRow w.heap.size 9 1 (.slice va C.length vc) C.length (nmC C))/\Hid (Cn E nm C C/\nm∈C)/\Hid (ag=true->483 - C.length<=n)/\Hid (ag=false->∀ i,i<ws.length->(ws.getD i w8z).m.nm∈C->∀ k∈askL (ws.getD i w8z).ls (ws.getD i w8z).wt,k∈C)/\Hid (Below w.heap.size w wr))
 case atStart=>exact ⟨true,[nm],_,_,rfl,rfl,R0.out,⟨⟨List.pairwise_singleton _ _,fun k h=>h,fun k h=>by rw [List.mem_singleton.1 h];exact .base,Nat.le_refl _⟩,List.mem_singleton.2 rfl⟩,fun _=>by simp,(fun h=>by cases h),B0.out⟩
 obtain ⟨ag,C0,va,vc,rfl,rfl,HR0,HCN0,HN0,HCL,HB0⟩:=hrel
 cases ag
 · have HF:Hid (∀ k,k∈C0↔Rch E nm k):=fun k=>⟨HCN0.out.1.rch k,fun h=>by
    induction h with
    | base=>exact HCN0.out.2
    | step _ ha ih=>
     obtain ⟨i,hi,h1,h2⟩:=HW.out.2 _ _ ha
     exact HCL.out rfl i hi (by rw [h1];exact ih) _ h2⟩
   go_wp2
   go_ret
   exact ⟨⟨_,rfl,C0,HR0.out,HCN0.out.1.asc,HF.out⟩,HB0.out⟩
 have hn0:=HN0.out rfl
 have hl0:=LEN.out _ _ HCN0.out.1
 clear HN0 HCL
 go_wp2_with fail
 go_loopw [5,8] (fun v5 v8 wr=>∃ (i:Nat) (C:List ByteArray) (va:Option Addr) (vc:Nat),i<=ws.length/\v5=.slice va C.length vc/\v8=.int .i64 i/\Hid (wr.ownsRow w.heap.size 9 1 (.slice va C.length vc) C.length (nmC C))/\Hid (Cn E nm C0 C)/\Hid (∀ i',i'<i->(ws.getD i' w8z).m.nm∈C0->∀ k∈askL (ws.getD i' w8z).ls (ws.getD i' w8z).wt,k∈C)/\Hid (Below w.heap.size w wr)) (fun _ v8 _=>ws.length - (intOf v8).toNat)
 case atStart=>exact ⟨0,C0,_,_,Nat.zero_le _,rfl,rfl,HR0.out,HCN0.out.1,fun j h=>absurd h (Nat.not_lt_zero _),HB0.out⟩
 obtain ⟨i,C1,va,vc,hi,rfl,rfl,HR1,HCN1,HD1,HB1⟩:=hrel
 have hl1:=LEN.out _ _ HCN1.out
 by_cases hlt:i<ws.length
 rotate_left
 · obtain rfl:i=ws.length:=by omega
   have HCNN:Hid (Cn E nm C1 C1/\nm∈C1):=⟨⟨HCN1.out.asc,fun k h=>h,HCN1.out.rch,Nat.le_refl _⟩,HCN1.out.sub _ HCN0.out.2⟩
   have hle:=HCN1.out.len
   by_cases hgr:C0.length<C1.length
   · clear HD1
     go_wp2
     go_roundg (483 - C1.length)
     case measure=>omega
     case rel=>exact ⟨true,C1,_,_,rfl,rfl,HR1.out,HCNN.out,fun _=>Nat.le_refl _,(fun h=>by cases h),HB1.out⟩
   have HCL:Hid (∀ i,i<ws.length->(ws.getD i w8z).m.nm∈C1->∀ k∈askL (ws.getD i w8z).ls (ws.getD i w8z).wt,k∈C1):=fun j hj hm=>HD1.out j hj (HCN1.out.back HCN0.out.1.asc hgr _ hm)
   clear HD1
   go_wp2
   go_roundg 0
   case measure=>omega
   case rel=>exact ⟨false,C1,_,_,rfl,rfl,HR1.out,HCNN.out,(fun h=>by cases h),fun _=>HCL.out,HB1.out⟩
 rcases HC.out with hss | ⟨ha,hbw,hcell⟩
 · rw [hss] at hlt;exact absurd hlt (Nat.not_lt_zero _)
 subst ha
 have G:Hid (∀ u,Below w.heap.size w u->∀ j v,(ws.getD i w8z).vs[j]?=some v->u.cell? ⟨b,off+i*8+j,none⟩=some v):=fun u hu j v e=>(hu.cell (p:=⟨b,off+i*8+j,none⟩) hbw).trans (hcell i hlt j v e)
 have LV:=hidI (HL.out i hlt).1
 have hl15:=(HL.out i hlt).2
 have WA:=hidI (HW.out.1 i hlt)
 have HDN:Hid (∀ C:List ByteArray,(∀ k∈C1,k∈C)->((ws.getD i w8z).m.nm∈C0->∀ k∈askL (ws.getD i w8z).ls (ws.getD i w8z).wt,k∈C)->∀ i',i'<i+1->(ws.getD i' w8z).m.nm∈C0->∀ k∈askL (ws.getD i' w8z).ls (ws.getD i' w8z).wt,k∈C):=fun C hs h i' hi' hm=>by
  rcases Nat.lt_or_ge i' i with h1 | h1
  · exact fun k hk=>hs k (HD1.out i' h1 hm k hk)
  obtain rfl:i'=i:=by omega
  exact h hm
 clear HD1
 generalize ws.getD i w8z=z at*
 obtain ⟨la,lc,hla,hlk,_⟩:=LV.out
 obtain ⟨⟨xn,xt,xa⟩,xl,ls,xo,xc,xx,xw⟩:=z
 dsimp only at hla hlk WA HDN hl15
 subst hla
 have g0:wr.cell? ⟨b,off+i*8,none⟩=some (.string xn):=G.out wr HB1.out 0 _ rfl
 obtain ⟨va',vc',hv',hnms⟩:=row_nms HR1.out
 injection hv' with e1 _ e2
 subst e1 e2
 have h53:=c53 va vc C1 xn wr (by omega) hnms
 clear hcell hnms LV
 go_wp2_with fail
 refine h53.mono ?_
 rintro e w1 ⟨rfl,rfl⟩
 clear h53
 cases hq:memB C1 xn
 · have HDN':=hidI (HDN.out C1 (fun k h=>h) (fun hm=>absurd (HCN1.out.sub _ hm) (fun h=>by rw [memB_iff.2 h] at hq;cases hq)))
   clear HDN WA
   go_wp2
   go_roundw
   case rel=>exact ⟨i+1,C1,_,_,by omega,rfl,by go_num,HR1.out,HCN1.out,HDN'.out,HB1.out⟩
   case measure=>simp [intOf];omega
 have hxm:Hid (xn∈C1):=memB_iff.1 hq
 have HRX:Hid (∀ k∈askL ls xw,Rch E nm k):=fun k hk=>.step (HCN1.out.rch _ hxm.out) (WA.out k hk)
 have HLK:=hidI hlk
 clear hq WA hlk
 go_wp2_with fail
 go_loopw [5,9] (fun v5 v9 wr=>∃ (q:Nat) (C:List ByteArray) (va:Option Addr) (vc:Nat),q<=ls.length/\v5=.slice va C.length vc/\v9=.int .i64 q/\Hid (wr.ownsRow w.heap.size 9 1 (.slice va C.length vc) C.length (nmC C))/\Hid (Cn E nm C0 C/\∀ k∈C1,k∈C)/\Hid (∀ j,j<q->(ls.getD j M.l4z).has=false->(ls.getD j M.l4z).nm∈C)/\Hid (Below w.heap.size w wr)) (fun _ v9 _=>ls.length - (intOf v9).toNat)
 case atStart=>exact ⟨0,C1,_,_,Nat.zero_le _,rfl,rfl,HR1.out,⟨HCN1.out,fun k h=>h⟩,fun j h=>absurd h (Nat.not_lt_zero _),HB1.out⟩
 obtain ⟨q,C2,vb,vd,hq,rfl,rfl,HR2,HCN2,HD2,HB2⟩:=hrel
 have hl2:=LEN.out _ _ HCN2.out.1
 have g3:wr.cell? ⟨b,off+i*8+3,none⟩=some (.slice la ls.length lc):=G.out wr HB2.out 3 _ rfl
 by_cases hqt:q<ls.length
 rotate_left
 · have HALL:Hid (∀ C:List ByteArray,(∀ k∈C2,k∈C)->(xw≠⟨#[]⟩->xw∈C)->∀ k∈askL ls xw,k∈C):=fun C hs hw=>ask_all (fun j hj hh=>hs _ (HD2.out j (by omega) hh)) hw
   have g7:wr.cell? ⟨b,off+i*8+7,none⟩=some (.string xw):=G.out wr HB2.out 7 _ rfl
   clear HD2
   cases hw0:xw.toList.isEmpty
   rotate_left
   · have hwe:xw=⟨#[]⟩:=by
      have:xw.toList=[]:=by simpa using hw0
      rw [ByteArray.toList_eq] at this
      exact ByteArray.ext (Array.toList_inj.1 this)
     have HDN':=hidI (HDN.out C2 HCN2.out.2 (fun _=>HALL.out C2 (fun k h=>h) (fun h=>absurd hwe h)))
     clear HDN HALL
     go_wp2
     exact ⟨⟨i+1,C2,_,_,by omega,rfl,by go_num,HR2.out,HCN2.out.1,HDN'.out,HB2.out⟩,by simp [intOf];omega⟩
   have hwn:xw≠⟨#[]⟩:=fun e=>by rw [e] at hw0;simp [ByteArray.toList_eq] at hw0
   have HRS:=hidI (HRX.out _ (ask_wt (ls:=ls) hwn))
   have h54:=c54 w.heap.size _ C2 xw wr HR2.out (by omega) HB2.out.size
   go_wp2_with fail
   refine h54.mono ?_
   rintro e w2 ⟨⟨v',rfl,hr3⟩,hb3⟩
   obtain ⟨ve,vf,hv3,_⟩:=row_nms hr3
   subst hv3
   have HR3:=hidI hr3
   have HB3:=hidI (HB2.out.trans (hb3.mono HB2.out.size))
   have HCN3:=hidI (HCN2.out.1.put HRS.out)
   have HDN':=hidI (HDN.out (putN C2 xw) (fun k h=>(putN_mem _ _ _).2 (.inl (HCN2.out.2 k h))) (fun _=>HALL.out (putN C2 xw) (fun k h=>(putN_mem _ _ _).2 (.inl h)) (fun _=>(putN_mem _ _ _).2 (.inr rfl))))
   clear h54 hr3 hb3 HDN HALL g3 g7
   go_wp2
   exact ⟨⟨i+1,putN C2 xw,_,_,by omega,rfl,by go_num,HR3.out,HCN3.out,HDN'.out,HB3.out⟩,by simp [intOf];omega⟩
 rcases HLK.out with hss | ⟨lb,lo,hl,hlbw,hlc⟩
 · rw [hss] at hqt;exact absurd hqt (Nat.not_lt_zero _)
 subst hl
 have h0:=(HB2.out.cell (p:=⟨lb,lo+q*4,none⟩) hlbw).trans (hlc q hqt).1
 have h1:=(HB2.out.cell (p:=⟨lb,lo+q*4+1,none⟩) hlbw).trans (hlc q hqt).2.1
 have HAS:=hidI (fun h=>HRX.out _ (ask_look (wt:=xw) hqt h))
 have HDN2:Hid (∀ C:List ByteArray,(∀ k∈C2,k∈C)->((ls.getD q M.l4z).has=false->(ls.getD q M.l4z).nm∈C)->∀ j,j<q+1->(ls.getD j M.l4z).has=false->(ls.getD j M.l4z).nm∈C):=fun C hs h j hj hh=>by
  rcases Nat.lt_or_ge j q with h1 | h1
  · exact hs _ (HD2.out j h1 hh)
  obtain rfl:j=q:=by omega
  exact h hh
 clear HD2 hlc
 generalize ls.getD q M.l4z=y at*
 obtain ⟨yh,yn,yc,yt⟩:=y
 dsimp only at*
 cases yh
 rotate_left
 · have HDN2':=hidI (HDN2.out C2 (fun k h=>h) (fun h=>by cases h))
   clear HDN2 HAS
   go_wp2
   go_roundw
   case rel=>exact ⟨q+1,C2,_,_,by omega,rfl,by go_num,HR2.out,HCN2.out,HDN2'.out,HB2.out⟩
   case measure=>simp [intOf];omega
 have HRS:=hidI (HAS.out rfl)
 have h54:=c54 w.heap.size _ C2 yn wr HR2.out (by omega) HB2.out.size
 go_wp2_with fail
 refine h54.mono ?_
 rintro e w2 ⟨⟨v',rfl,hr3⟩,hb3⟩
 obtain ⟨ve,vf,hv3,_⟩:=row_nms hr3
 subst hv3
 have HR3:=hidI hr3
 have HB3:=hidI (HB2.out.trans (hb3.mono HB2.out.size))
 have HCN3:Hid (Cn E nm C0 (putN C2 yn)/\∀ k∈C1,k∈putN C2 yn):=⟨HCN2.out.1.put HRS.out,fun k hk=>(putN_mem _ _ _).2 (.inl (HCN2.out.2 k hk))⟩
 have HDN2':=hidI (HDN2.out (putN C2 yn) (fun k h=>(putN_mem _ _ _).2 (.inl h)) (fun _=>(putN_mem _ _ _).2 (.inr rfl)))
 clear h54 hr3 hb3 HDN2 HAS h0 h1 g3
 go_wp2
 go_roundw
 case rel=>exact ⟨q+1,putN C2 yn,_,_,by omega,rfl,by go_num,HR3.out,HCN3.out,HDN2'.out,HB3.out⟩
 case measure=>simp [intOf];omega
