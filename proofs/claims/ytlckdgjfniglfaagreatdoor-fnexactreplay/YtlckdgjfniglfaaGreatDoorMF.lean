import Derived.Test.YtlckdgjfniglfaaGreatDoorMD
set_option linter.unusedVariables false
set_option linter.unusedSimpArgs false
set_option maxHeartbeats 8000000
set_option maxRecDepth 100000
namespace Go.Proofs.YtlckdgjfniglfaaGreatDoor
open Proofs.Tryz
open Go.RowKit Go.Maps
theorem row_strs {w:World} {N g tc:Nat} {ts:List ByteArray} (h:w.ownsRow N 9 1 (.slice (some ⟨g,0,none⟩) ts.length tc) ts.length (ts.map Value.string)):g<w.heap.size/\ts.length<=tc/\tc<=maxLen/\∀ k,k<ts.length->w.cell? ⟨g,k,none⟩=some (.string (ts.getD k ByteArray.empty)):=by
 have hrow:=h;rcases h.2 with ⟨hv,_⟩ | ⟨g',cap,cur,hv,hg,hh,h1,h2,_⟩
 · cases hv
 · simp only [Value.slice.injEq,Option.some.injEq,Addr.mk.injEq,and_true] at hv
   obtain ⟨rfl,_,rfl⟩:=hv;refine ⟨(Array.getElem?_eq_some_iff.1 hh).1,h1,h2,fun k hk=>?_⟩;rw [hrow.cellAt k om_];rw [List.getElem?_map,List.getElem?_eq_getElem hk];simp only [Option.map_some,List.getD,List.getElem?_eq_getElem hk,Option.getD_some]
theorem bef_less (a b:ByteArray):Op.bytesLess a.toList b.toList=bef a b:=by
 rw [bl_eq];simp [bef,ByteArray.toList_eq]
theorem insT_at {W:Int} {t:ByteArray} (ts:List ByteArray) (k:Nat) (hk:k<=ts.length) (h1:∀ j,j<k->bef (sumS (ts.getD j ByteArray.empty) W) (sumS t W)=true) (h2:k<ts.length->bef (sumS t W) (sumS (ts.getD k ByteArray.empty) W)=true):insT W t ts=ts.take k++[t]++ts.drop k:=by
 induction ts generalizing k with
 | nil=>
  obtain rfl:k=0:=by simpa using hk
  rfl
 | cons y r ih=>
  cases k with
  | zero=>
   have:=h2 sm_;have e:bef (sumS t W) (sumS y W)=true:=this;unfold insT;rw [if_pos e];rfl
  | succ k=>
   have e:bef (sumS y W) (sumS t W)=true:=h1 0 om_;have e':¬ bef (sumS t W) (sumS y W)=true:=fun h=>by
    have:=bef_tr e h;rw [bef_irr] at this;cases this
   unfold insT;rw [if_neg e'];have:=ih k (by simpa using hk) (fun j hj=>h1 (j+1) om_) (fun hj=>h2 (by simpa using hj));rw [this];rfl
theorem getD_memT {ts:List ByteArray} {p:Nat} (hp:p<ts.length):ts.getD p ByteArray.empty∈ts:=by
 have:ts.getD p ByteArray.empty=ts[p]:=by simp [List.getD,List.getElem?_eq_getElem hp]
 rw [this];exact List.getElem_mem hp
theorem put_there {W:Int} {t:ByteArray} {ts:List ByteArray} {k:Nat} (hA:AscT W ts) (hk:k<ts.length) (he:sumS (ts.getD k ByteArray.empty) W=sumS t W):putT W t ts=(ts,decide (ts.getD k ByteArray.empty=t)):=by
 unfold putT;rw [find_sum hA (getD_memT hk) he]
theorem put_new {W:Int} {t:ByteArray} {ts:List ByteArray} {k:Nat} (hA:AscT W ts) (hk:k<=ts.length) (h1:∀ j,j<k->bef (sumS (ts.getD j ByteArray.empty) W) (sumS t W)=true) (h2:k<ts.length->bef (sumS (ts.getD k ByteArray.empty) W) (sumS t W)=false/\sumS (ts.getD k ByteArray.empty) W≠sumS t W):putT W t ts=(ts.take k++[t]++ts.drop k,true):=by
 have hg:∀ i j,i<j->j<ts.length->bef (sumS (ts.getD i ByteArray.empty) W) (sumS (ts.getD j ByteArray.empty) W)=true:=fun i j hij hj=>by
  have:=List.pairwise_iff_getElem.1 hA i j (by simpa using Nat.lt_trans hij hj) (by simpa using hj) hij;simp only [List.getElem_map,gT] at this;simpa only [List.getD,List.getElem?_eq_getElem (Nat.lt_trans hij hj),List.getElem?_eq_getElem hj,Option.getD_some] using this
 have hne:∀ j,j<ts.length->sumS (ts.getD j ByteArray.empty) W≠sumS t W:=fun j hj e=>by
  rcases Nat.lt_trichotomy j k with h | rfl | h
  · have:=h1 j h
    rw [e,bef_irr] at this;cases this
  · exact (h2 hj).2 e
  · have:=hg k j h hj
    rw [e,(h2 om_).1] at this;cases this
 have hf:ts.find? (fun y=>decide (sumS y W=sumS t W))=none:=by
  rw [List.find?_eq_none];intro y hy;obtain ⟨j,hj,rfl⟩:=List.getElem_of_mem hy;have:=hne j hj;simp only [List.getD,List.getElem?_eq_getElem hj,Option.getD_some] at this;simpa using this
 unfold putT;rw [hf];simp only [];rw [insT_at ts k hk h1 (fun h=>((bef_tot (h2 h).2).resolve_left (by rw [(h2 h).1];exact Bool.false_ne_true)))]
theorem beq_list (a b:ByteArray):(a.toList==b.toList)=decide (a=b):=by
 by_cases h:a=b
 · subst h;simp
 · have:a.toList≠b.toList:=fun e=>h (by
    rw [ByteArray.toList_eq,ByteArray.toList_eq] at e;cases a;cases b;simpa using e)
   simp [this,h]
theorem st_overB {u:World} {B N:Nat} {old vs:List Value} {P:World->Prop} (hl:old.length=vs.length) (hB:BlkAt u B old) (hO:OpnAt u B) (hN:N<=B) (h:∀ u',Below N u u'->BlkAt u' B vs->OpnAt u' B->(∀ k,k≠B->u'.heap[k]?=u.heap[k]?)->P u'):P (fill u B 0 vs):=
 h _ (below_fill hN _ _ (Below.refl _ _)) (BlkAt.fill0 hB hl) (OpnAt.fill _ _ hO) (fun k hne=>heap_fill k hne _ _)
theorem blk_src {X:World} {q:Nat} {vs:List Value} (h:BlkAt X q vs):∀ j v,vs[j]?=some v->X.cell? ((⟨q,0,none⟩:Addr).add j)=some v:=fun j v hj=>by
 rw [adr_add,Nat.zero_add];exact h j v hj
theorem r7 {K:Act->World->Prop} {R:Ending->World->Prop} {d0 d3 d4 d5 d6 d8 d9 d10 d11 d12 d13 d14 d15 d16 d17 d18 d19 d20 d21 d22 d23 d24 d25 d26 d27 d28 d29 d30 d31 d32 d33 d34 d35 d36 d37 d38 d39 d40 d41 d42 d43 d44 d45 d46 d47 d48 d49 d50 d51 d52 d53 d54 d55 d56 d57 d58 d59 d60 d61 d62 d63 d64 d65 d66 d67 d68 d69 d70 d71:Value} {k Zn g tc:Nat} {ts:List ByteArray} {t:ByteArray} {V u:World} (bu:Below (Zn+2) V u) (y1:V.cell? ⟨Zn,1,none⟩=some (.slice (some ⟨g,0,none⟩) ts.length tc)) (oz:OpnAt V Zn) (hgl:g<Zn) (hC:∀ k,k<ts.length->V.cell? ⟨g,k,none⟩=some (.string (ts.getD k ByteArray.empty))) (hk:k<=ts.length) (htc:ts.length<=tc) (htm:tc<=maxLen) (hl:ts.length<=1000000) (hVz:Zn+2<=V.heap.size)
 (hKK:∀ (y56 y57 y58 y59 y60 y61 y62 y63 y64 y65 y66 y67 y68 y69 y70:Value) (g6 c906:Nat) (E:World),Below (Zn+2) V E->E.ownsRow (Zn+2) 9 1 (.slice (some ⟨g6,0,none⟩) (k+1+(ts.length - k)) c906) (k+1+(ts.length - k)) ((ts.take k++[t]++ts.drop k).map Value.string)->K { tmps:=#[d0,.string t,.pointer (some ⟨Zn,0,none⟩),d3,d4,d5,d6,.int .i64 k,d8,d9,d10,d11,d12,d13,d14,d15,d16,d17,d18,d19,d20,d21,d22,d23,d24,d25,d26,d27,d28,d29,d30,d31,d32,d33,d34,d35,d36,d37,d38,d39,d40,d41,d42,d43,d44,d45,d46,d47,d48,d49,d50,d51,d52,d53,d54,d55,y56,y57,y58,y59,y60,y61,y62,y63,y64,y65,y66,y67,y68,y69,y70,d71],defers:=[] } (E.setCell ⟨Zn,1,none⟩ (.slice (some ⟨g6,0,none⟩) (k+1+(ts.length - k)) c906))):
 Code.wp prog (Code.region 7 #[⟨some 56,.buildSlice 22 0 #[],22, "l5_store.go:134",#[],none⟩,⟨some 57,.fieldAddr 29 (.tmp 2) 1,0, "l5_store.go:134",#[],none⟩,⟨some 58,.load 22 (.tmp 57),22, "l5_store.go:134",#[⟨1,.data⟩],none⟩,⟨some 59,.move (.tmp 7),3, "l5_store.go:134",#[],none⟩,⟨some 60,.slice 22 (.tmp 58) none (some (.tmp 59)) none,22, "l5_store.go:134",#[⟨2,.data⟩,⟨3,.data⟩],none⟩,⟨some 61,.call ⟨.builtin .append,#[.tmp 56,.tmp 60],#[22,22]⟩,22, "l5_store.go:134",#[⟨0,.data⟩,⟨4,.data⟩],none⟩,⟨some 62,.move (.tmp 1),9, "l5_store.go:134",#[],none⟩,⟨some 63,.buildSlice 22 1 #[(0,.tmp 62)],22, "l5_store.go:134",#[⟨6,.data⟩],none⟩,⟨some 64,.call ⟨.builtin .append,#[.tmp 61,.tmp 63],#[22,22]⟩,22, "l5_store.go:134",#[⟨5,.data⟩,⟨7,.data⟩,⟨5,.chain⟩],none⟩,⟨some 65,.fieldAddr 29 (.tmp 2) 1,0, "l5_store.go:134",#[],none⟩,⟨some 66,.load 22 (.tmp 65),22, "l5_store.go:134",#[⟨9,.data⟩],none⟩,⟨some 67,.move (.tmp 7),3, "l5_store.go:134",#[],none⟩,⟨some 68,.slice 22 (.tmp 66) (some (.tmp 67)) none none,22, "l5_store.go:134",#[⟨10,.data⟩,⟨11,.data⟩],none⟩,⟨some 69,.call ⟨.builtin .append,#[.tmp 64,.tmp 68],#[22,22]⟩,22, "l5_store.go:134",#[⟨8,.data⟩,⟨12,.data⟩,⟨8,.chain⟩],none⟩,⟨some 70,.fieldAddr 29 (.tmp 2) 1,0, "l5_store.go:134",#[⟨0,.phase⟩,⟨1,.phase⟩,⟨2,.phase⟩,⟨3,.phase⟩,⟨4,.phase⟩,⟨5,.phase⟩,⟨6,.phase⟩,⟨7,.phase⟩,⟨8,.phase⟩,⟨9,.phase⟩,⟨10,.phase⟩,⟨11,.phase⟩,⟨12,.phase⟩,⟨13,.phase⟩],none⟩,⟨none,.store 22 (.tmp 70) (.tmp 69),0, "l5_store.go:134",#[⟨14,.data⟩,⟨13,.data⟩,⟨13,.chain⟩,⟨0,.phase⟩,⟨1,.phase⟩,⟨2,.phase⟩,⟨3,.phase⟩,⟨4,.phase⟩,⟨5,.phase⟩,⟨6,.phase⟩,⟨7,.phase⟩,⟨8,.phase⟩,⟨9,.phase⟩,⟨10,.phase⟩,⟨11,.phase⟩,⟨12,.phase⟩,⟨13,.phase⟩],none⟩] true) (Exit.then K (bodyPost prog Tryz.f71 R)) { tmps:=#[d0,.string t,.pointer (some ⟨Zn,0,none⟩),d3,d4,d5,d6,.int .i64 k,d8,d9,d10,d11,d12,d13,d14,d15,d16,d17,d18,d19,d20,d21,d22,d23,d24,d25,d26,d27,d28,d29,d30,d31,d32,d33,d34,d35,d36,d37,d38,d39,d40,d41,d42,d43,d44,d45,d46,d47,d48,d49,d50,d51,d52,d53,d54,d55,d56,d57,d58,d59,d60,d61,d62,d63,d64,d65,d66,d67,d68,d69,d70,d71],defers:=[] } u:=by
 obtain ⟨i0,hi,hz0,hz1,hz2⟩:=info_parts' info9;have l2u:Zn+2<=u.heap.size:=Nat.le_trans hVz bu.size;have HL1:Hid (((ts.take k).map Value.string).length=k*1):=hI_ so_;have HL3:Hid (((ts.drop k).map Value.string).length=(ts.length - k)*1):=hI_ sm_;have HO1:Hid (∀ u∈(ts.take k).map Value.string,u.oneCell'=true):=hI_ (fun q hq=>by obtain ⟨t,_,rfl⟩:=List.mem_map.1 hq;rfl);have HO3:Hid (∀ u∈(ts.drop k).map Value.string,u.oneCell'=true):=hI_ (fun q hq=>by obtain ⟨t,_,rfl⟩:=List.mem_map.1 hq;rfl);have HM1:Hid (0+k<=maxLen):=by show _<=_;unfold maxLen;omega
 have HM2:Hid ((0+k)*16<=140737488355328):=by show _<=_;omega
 have HM3:Hid (k+1<=maxLen):=by show _<=_;unfold maxLen;omega
 have HM4:Hid ((k+1)*16<=140737488355328):=by show _<=_;omega
 have HM5:Hid (k+1+(ts.length - k)<=maxLen):=by show _<=_;unfold maxLen;omega
 have HM6:Hid ((k+1+(ts.length - k))*16<=140737488355328):=by show _<=_;omega
 have HS1:Hid (∀ u,Below (Zn+2) V u->∀ j v,((ts.take k).map Value.string)[j]?=some v->u.cell? ((⟨g,0,none⟩:Addr).add j)=some v):=hI_ (fun u hu j v hj=>by
  rw [adr_add,Nat.zero_add,hu.cell (p:=⟨g,j,none⟩) (show g<Zn+2 by omega)];have hjl:j<k:=by have:=(List.getElem?_eq_some_iff.1 hj).1;simp at this;omega
  rw [hC j om_];rw [List.getElem?_map,List.getElem?_take_of_lt hjl,List.getElem?_eq_getElem (show j<ts.length by omega)] at hj;simp only [Option.map_some] at hj;rw [<- hj];simp only [List.getD,List.getElem?_eq_getElem (show j<ts.length by omega),Option.getD_some])
 obtain ⟨off,hoff,hslc⟩:∃ off,(off=k\/ts.length<=k)/\∀ u:World,(Instr.slice 22 (.slice (some ⟨g,0,none⟩) ts.length tc) (some (.int .i64 k)) none none).run prog u=.ok (.slice (some ⟨g,off,none⟩) (ts.length - k) (tc - k)) u:=by
  refine ⟨if tc=k then 0 else k,?_,fun u=>?_⟩
  · by_cases h:tc=k
    · exact .inr om_
    · exact .inl (by rw [if_neg h])
  · by_cases h:tc=k
    · simp [go_sem,Instr.slice,Instr.sliceBounds,Instr.sliceBound,asIntOf,hi,hz1,h,hk,underlying22]
    · simp [go_sem,Instr.slice,Instr.sliceBounds,Instr.sliceBound,asIntOf,hi,hz1,h,hk,underlying22]
 have HS3:Hid (∀ u,Below (Zn+2) V u->∀ j v,((ts.drop k).map Value.string)[j]?=some v->u.cell? ((⟨g,off,none⟩:Addr).add j)=some v):=hI_ (fun u hu j v hj=>by
  have hjl:k+j<ts.length:=by have:=(List.getElem?_eq_some_iff.1 hj).1;simp at this;omega
  obtain rfl:off=k:=hoff.resolve_right om_;rw [adr_add,hu.cell (p:=⟨g,off+j,none⟩) (show g<Zn+2 by omega)];rw [hC (off+j) hjl];rw [List.getElem?_map,List.getElem?_drop,List.getElem?_eq_getElem hjl] at hj;simp only [Option.map_some] at hj;rw [<- hj];simp only [List.getD,List.getElem?_eq_getElem hjl,Option.getD_some])
 clear hoff;have z1:=(bu.cell (p:=⟨Zn,1,none⟩) (show Zn<Zn+2 by omega)).trans y1;have hkc:k<=tc:=om_;clear hC;refine wp_region_L 15 (S:=(fun u=>u.cell? ⟨Zn,1,none⟩=some (.slice (some ⟨g,0,none⟩) ts.length tc))) kr_ ?_ fun hHeld=>?_
 · exact z1
 refine wpL_take kr_ (i:=1) (oi:=⟨some 57,.fieldAddr 29 (.tmp 2) 1,0,_,_,none⟩) (v:=?_) rfl kr_ kr_ kr_ (fun _ _ _ h=>h) (Or.inl ⟨by rfl,?_⟩) (by assumption) ?_;rotate_left
 · intro wq hSw
   (try dsimp only at hSw)
   go_simp
   try with_reducible rfl
 try simp only [qq]
 refine wpL_take kr_ (i:=2) (oi:=⟨some 58,.load 22 (.tmp 57),22,_,_,none⟩) (v:=?_) rfl kr_ kr_ kr_ (fun _ _ _ h=>h) (Or.inl ⟨by rfl,?_⟩) (by assumption) ?_;rotate_left
 · intro wq hSw
   (try dsimp only at hSw)
   go_simp
   try with_reducible rfl
 try simp only [qq]
 refine wpL_take kr_ (i:=3) (oi:=⟨some 59,.move (.tmp 7),3,_,_,none⟩) (v:=?_) rfl kr_ kr_ kr_ (fun _ _ _ h=>h) (Or.inl ⟨by rfl,?_⟩) (by assumption) ?_;rotate_left
 · intro wq hSw
   (try dsimp only at hSw)
   go_simp
   try with_reducible rfl
 try simp only [qq]
 refine wpL_take kr_ (i:=4) (oi:=⟨some 60,.slice 22 (.tmp 58) none (some (.tmp 59)) none,22,_,_,none⟩) (v:=?_) rfl kr_ kr_ kr_ (fun _ _ _ h=>h) (Or.inl ⟨by rfl,?_⟩) (by assumption) ?_;rotate_left
 · intro wq hSw
   (try dsimp only at hSw)
   go_simp
   try with_reducible rfl
 try simp only [qq]
 refine wpL_take kr_ (i:=6) (oi:=⟨some 62,.move (.tmp 1),9,_,_,none⟩) (v:=?_) rfl kr_ kr_ kr_ (fun _ _ _ h=>h) (Or.inl ⟨by rfl,?_⟩) (by assumption) ?_;rotate_left
 · intro wq hSw
   (try dsimp only at hSw)
   go_simp
   try with_reducible rfl
 try simp only [qq]
 refine wpL_take kr_ (i:=9) (oi:=⟨some 65,.fieldAddr 29 (.tmp 2) 1,0,_,_,none⟩) (v:=?_) rfl kr_ kr_ kr_ (fun _ _ _ h=>h) (Or.inl ⟨by rfl,?_⟩) (by assumption) ?_;rotate_left
 · intro wq hSw
   (try dsimp only at hSw)
   go_simp
   try with_reducible rfl
 try simp only [qq]
 refine wpL_take kr_ (i:=10) (oi:=⟨some 66,.load 22 (.tmp 65),22,_,_,none⟩) (v:=?_) rfl kr_ kr_ kr_ (fun _ _ _ h=>h) (Or.inl ⟨by rfl,?_⟩) (by assumption) ?_;rotate_left
 · intro wq hSw
   (try dsimp only at hSw)
   go_simp
   try with_reducible rfl
 try simp only [qq]
 refine wpL_take kr_ (i:=11) (oi:=⟨some 67,.move (.tmp 7),3,_,_,none⟩) (v:=?_) rfl kr_ kr_ kr_ (fun _ _ _ h=>h) (Or.inl ⟨by rfl,?_⟩) (by assumption) ?_;rotate_left
 · intro wq hSw
   (try dsimp only at hSw)
   go_simp
   try with_reducible rfl
 try simp only [qq]
 refine wpL_take kr_ (i:=12) (oi:=⟨some 68,.slice 22 (.tmp 66) (some (.tmp 67)) none none,22,_,_,none⟩) (v:=?_) rfl kr_ kr_ kr_ (fun _ _ _ h=>h) (Or.inl ⟨by rfl,?_⟩) (by assumption) ?_;rotate_left
 · intro wq hSw
   (try dsimp only at hSw)
   go_simp
   try with_reducible rfl
 try simp only [qq]
 refine wpL_ready (rs:=[0,7]) kr_ sm_ ?_;refine AllReadyL.cons dc_ (o:=⟨some 56,.buildSlice 22 0 #[],22,_,_,none⟩) rfl (fun K hK=>?_) (AllReadyL.cons dc_ (o:=⟨some 63,.buildSlice 22 1 #[(0,.tmp 62)],22,_,_,none⟩) rfl (fun K hK=>?_) AllReadyL.nil)
 · go_simp
   have bx1:Below (Zn+2) V ((u.alloc (.cells #[] 9)).drew):=(bu.alloc om_ _).drew;have sx1:Hid (((u.alloc (.cells #[] 9)).drew).heap.size=u.heap.size+1):=hI_ sm_;have lx1:u.heap.size<((u.alloc (.cells #[] 9)).drew).heap.size:=sm_;have kx1:Hid (Below u.heap.size u ((u.alloc (.cells #[] 9)).drew)):=hI_ (bA_.drew);have RW:Hid (((u.alloc (.cells #[] 9)).drew).ownsRow (Zn+2) 9 1 (.slice (some ⟨u.heap.size,0,none⟩) 0 0) 0 []):=hI_ (World.ownsRow_made (base:=Zn+2) (e:=9) (size:=1) u #[] 0 om_ (Nat.zero_le _) rfl);have cx1:=(bx1.cell (p:=⟨Zn,1,none⟩) (show Zn<Zn+2 by omega)).trans y1;clear hHeld;refine hK.out _ _ cx1 fun hHeld=>?_;clear hK K
   try simp only [qq]
   generalize ((u.alloc (.cells #[] 9)).drew)=x1 at*;have l2x1:Zn+2<=x1.heap.size:=Nat.le_trans hVz bx1.size;refine wpL_ready (rs:=[5,7]) kr_ sm_ ?_;refine AllReadyL.cons dc_ (o:=⟨some 61,.call ⟨.builtin .append,#[.tmp 56,.tmp 60],#[22,22]⟩,22,_,_,none⟩) rfl (fun K hK=>?_) (AllReadyL.cons dc_ (o:=⟨some 63,.buildSlice 22 1 #[(0,.tmp 62)],22,_,_,none⟩) rfl (fun K hK=>?_) AllReadyL.nil)
   · refine step_app_n rfl (.tmp 56) (.tmp 60) 22 rfl (Zn+2) 9 i0 (.string ⟨#[]⟩) 1 16 underlying22 hi hz0 hz1 hz2 rfl dc_ (.slice (some ⟨u.heap.size,0,none⟩) 0 0) (0) ([]) rfl RW.out ⟨g,0,none⟩ (k) (tc) ((ts.take k).map Value.string) rfl HL1.out (HS1.out x1 bx1) HO1.out HM1.out HM2.out l2x1 ?_
     intro v4 x2 ho4 hg4 hn4;have hm4:=hn4 sm_;rw [Nat.zero_add,List.nil_append] at ho4;obtain ⟨g4,c904,hv4⟩:=row_some ho4 hm4;subst hv4;have bx2:Below (Zn+2) V x2:=bx1.trans (gb_below hg4 (fun j e=>own_blk RW.out e) l2x1);have l2x2:Zn+2<=x2.heap.size:=Nat.le_trans hVz bx2.size;have lx2:x1.heap.size<=x2.heap.size:=hg4.size;have R4:=hI_ ho4;have cx2:=(bx2.cell (p:=⟨Zn,1,none⟩) (show Zn<Zn+2 by omega)).trans y1;clear hHeld;refine hK.out _ _ cx2 fun hHeld=>?_;clear hK K
     try simp only [qq]
     refine wpL_ready (rs:=[7]) kr_ sm_ ?_;refine AllReadyL.cons dc_ (o:=⟨some 63,.buildSlice 22 1 #[(0,.tmp 62)],22,_,_,none⟩) rfl (fun K hK=>?_) AllReadyL.nil;go_simp;have bx3:Below (Zn+2) V (x2.alloc (.cells #[.string t] 9)):=(bx2.alloc om_ _);have sx3:Hid ((x2.alloc (.cells #[.string t] 9)).heap.size=x2.heap.size+1):=hI_ sm_;have lx3:x2.heap.size<(x2.alloc (.cells #[.string t] 9)).heap.size:=sm_;have kx3:Hid (Below x2.heap.size x2 (x2.alloc (.cells #[.string t] 9))):=hI_ bA_;have BQ:Hid (BlkAt (x2.alloc (.cells #[.string t] 9)) x2.heap.size [.string t]):=hI_ (blk_new x2 [.string t] 9);have cx3:=(bx3.cell (p:=⟨Zn,1,none⟩) (show Zn<Zn+2 by omega)).trans y1;clear hHeld;refine hK.out _ _ cx3 fun hHeld=>?_;clear hK K
     try simp only [qq]
     have R4b:=hI_ (own_below R4.out kx3.out);generalize (x2.alloc (.cells #[.string t] 9))=x3 at*;have l2x3:Zn+2<=x3.heap.size:=Nat.le_trans hVz bx3.size;refine wpL_ready (rs:=[8]) kr_ sm_ ?_;refine AllReadyL.cons dc_ (o:=⟨some 64,.call ⟨.builtin .append,#[.tmp 61,.tmp 63],#[22,22]⟩,22,_,_,none⟩) rfl (fun K hK=>?_) AllReadyL.nil;refine step_app_n rfl (.tmp 61) (.tmp 63) 22 rfl (Zn+2) 9 i0 (.string ⟨#[]⟩) 1 16 underlying22 hi hz0 hz1 hz2 rfl dc_ (.slice (some ⟨g4,0,none⟩) k c904) (k) ((ts.take k).map Value.string) rfl R4b.out ⟨x2.heap.size,0,none⟩ (1) (1) ([.string t]) rfl rfl (blk_src BQ.out) (by simp [Value.oneCell']) HM3.out HM4.out l2x3 ?_;intro v5 x4 ho5 hg5 hn5;have hm5:=hn5 sm_;obtain ⟨g5,c905,hv5⟩:=row_some ho5 hm5;subst hv5;have bx4:Below (Zn+2) V x4:=bx3.trans (gb_below hg5 (fun j e=>own_blk R4b.out e) l2x3);have l2x4:Zn+2<=x4.heap.size:=Nat.le_trans hVz bx4.size;have lx4:x3.heap.size<=x4.heap.size:=hg5.size;have R5:=hI_ ho5;have cx4:=(bx4.cell (p:=⟨Zn,1,none⟩) (show Zn<Zn+2 by omega)).trans y1;clear hHeld;refine hK.out _ _ cx4 fun hHeld=>?_;clear hK K
     try simp only [qq]
     refine wpL_ready (rs:=[13]) kr_ sm_ ?_;refine AllReadyL.cons dc_ (o:=⟨some 69,.call ⟨.builtin .append,#[.tmp 64,.tmp 68],#[22,22]⟩,22,_,_,none⟩) rfl (fun K hK=>?_) AllReadyL.nil;refine step_app_n rfl (.tmp 64) (.tmp 68) 22 rfl (Zn+2) 9 i0 (.string ⟨#[]⟩) 1 16 underlying22 hi hz0 hz1 hz2 rfl dc_ (.slice (some ⟨g5,0,none⟩) (k+1) c905) (k+1) ((ts.take k).map Value.string++[.string t]) rfl R5.out ⟨g,off,none⟩ (ts.length - k) (tc - k) ((ts.drop k).map Value.string) rfl HL3.out (HS3.out x4 bx4) HO3.out HM5.out HM6.out l2x4 ?_;intro v6 x5 ho6 hg6 hn6;have hm6:=hn6 sm_;obtain ⟨g6,c906,hv6⟩:=row_some ho6 hm6;subst hv6;have bx5:Below (Zn+2) V x5:=bx4.trans (gb_below hg6 (fun j e=>own_blk R5.out e) l2x4);have l2x5:Zn+2<=x5.heap.size:=Nat.le_trans hVz bx5.size;have lx5:x4.heap.size<=x5.heap.size:=hg6.size;have R6:=hI_ ho6;have cx5:=(bx5.cell (p:=⟨Zn,1,none⟩) (show Zn<Zn+2 by omega)).trans y1;clear hHeld;refine hK.out _ _ cx5 fun hHeld=>?_;clear hK K
     try simp only [qq]
     refine wpL_take kr_ (i:=14) (oi:=⟨some 70,.fieldAddr 29 (.tmp 2) 1,0,_,_,none⟩) (v:=?_) rfl kr_ kr_ kr_ (fun _ _ _ h=>h) (Or.inl ⟨by rfl,?_⟩) (by assumption) ?_;rotate_left
     · intro wq hSw
       (try dsimp only at hSw)
       go_simp
       try with_reducible rfl
     try simp only [qq]
     refine wpL_ready (rs:=[15]) kr_ sm_ ?_;refine AllReadyL.last (o:=⟨none,.store 22 (.tmp 70) (.tmp 69),0,_,_,none⟩) rfl fun K hK=>?_;have f1:=(oz.below bx5 om_) 1;have RF:x5.ownsRow (Zn+2) 9 1 (.slice (some ⟨g6,0,none⟩) (k+1+(ts.length - k)) c906) (k+1+(ts.length - k)) ((ts.take k++[t]++ts.drop k).map Value.string):=by
      have h:=R6.out;rw [List.map_append,List.map_append];exact h
     have q1:=(bx5.cell (p:=⟨Zn,1,none⟩) (show Zn<Zn+2 by omega)).trans y1;go_simp;clear hHeld;refine hK.out _ _ ?_;clear hK K
     try simp only [qq]
     refine wpL_done kr_ ?_ _;exact hKK _ _ _ _ _ _ _ _ _ _ _ _ _ _ _ _ _ _ bx5 RF
   · go_simp
     have bx2:Below (Zn+2) V (x1.alloc (.cells #[.string t] 9)):=(bx1.alloc om_ _);have sx2:Hid ((x1.alloc (.cells #[.string t] 9)).heap.size=x1.heap.size+1):=hI_ sm_;have lx2:x1.heap.size<(x1.alloc (.cells #[.string t] 9)).heap.size:=sm_;have kx2:Hid (Below x1.heap.size x1 (x1.alloc (.cells #[.string t] 9))):=hI_ bA_;have BQ:Hid (BlkAt (x1.alloc (.cells #[.string t] 9)) x1.heap.size [.string t]):=hI_ (blk_new x1 [.string t] 9);have cx2:=(bx2.cell (p:=⟨Zn,1,none⟩) (show Zn<Zn+2 by omega)).trans y1;clear hHeld;refine hK.out _ _ cx2 fun hHeld=>?_;clear hK K
     try simp only [qq]
     have RW2:=hI_ (own_below RW.out kx2.out);generalize (x1.alloc (.cells #[.string t] 9))=x2 at*;have l2x2:Zn+2<=x2.heap.size:=Nat.le_trans hVz bx2.size;clear RW;have RW:=RW2;refine wpL_ready (rs:=[5]) kr_ sm_ ?_;refine AllReadyL.cons dc_ (o:=⟨some 61,.call ⟨.builtin .append,#[.tmp 56,.tmp 60],#[22,22]⟩,22,_,_,none⟩) rfl (fun K hK=>?_) AllReadyL.nil;refine step_app_n rfl (.tmp 56) (.tmp 60) 22 rfl (Zn+2) 9 i0 (.string ⟨#[]⟩) 1 16 underlying22 hi hz0 hz1 hz2 rfl dc_ (.slice (some ⟨u.heap.size,0,none⟩) 0 0) (0) ([]) rfl RW.out ⟨g,0,none⟩ (k) (tc) ((ts.take k).map Value.string) rfl HL1.out (HS1.out x2 bx2) HO1.out HM1.out HM2.out l2x2 ?_;intro v4 x3 ho4 hg4 hn4;have hm4:=hn4 sm_;rw [Nat.zero_add,List.nil_append] at ho4;obtain ⟨g4,c904,hv4⟩:=row_some ho4 hm4;subst hv4;have bx3:Below (Zn+2) V x3:=bx2.trans (gb_below hg4 (fun j e=>own_blk RW.out e) l2x2);have l2x3:Zn+2<=x3.heap.size:=Nat.le_trans hVz bx3.size;have lx3:x2.heap.size<=x3.heap.size:=hg4.size;have R4:=hI_ ho4;have cx3:=(bx3.cell (p:=⟨Zn,1,none⟩) (show Zn<Zn+2 by omega)).trans y1;have BQ2:=hI_ (blk_kept BQ.out hg4 om_ (fun e=>by have e2:x1.heap.size=u.heap.size:=Option.some.inj e;omega));clear BQ;have BQ:=BQ2;clear hHeld;refine hK.out _ _ cx3 fun hHeld=>?_;clear hK K
     try simp only [qq]
     refine wpL_ready (rs:=[8]) kr_ sm_ ?_;refine AllReadyL.cons dc_ (o:=⟨some 64,.call ⟨.builtin .append,#[.tmp 61,.tmp 63],#[22,22]⟩,22,_,_,none⟩) rfl (fun K hK=>?_) AllReadyL.nil;refine step_app_n rfl (.tmp 61) (.tmp 63) 22 rfl (Zn+2) 9 i0 (.string ⟨#[]⟩) 1 16 underlying22 hi hz0 hz1 hz2 rfl dc_ (.slice (some ⟨g4,0,none⟩) k c904) (k) ((ts.take k).map Value.string) rfl R4.out ⟨x1.heap.size,0,none⟩ (1) (1) ([.string t]) rfl rfl (blk_src BQ.out) (by simp [Value.oneCell']) HM3.out HM4.out l2x3 ?_;intro v5 x4 ho5 hg5 hn5;have hm5:=hn5 sm_;obtain ⟨g5,c905,hv5⟩:=row_some ho5 hm5;subst hv5;have bx4:Below (Zn+2) V x4:=bx3.trans (gb_below hg5 (fun j e=>own_blk R4.out e) l2x3);have l2x4:Zn+2<=x4.heap.size:=Nat.le_trans hVz bx4.size;have lx4:x3.heap.size<=x4.heap.size:=hg5.size;have R5:=hI_ ho5;have cx4:=(bx4.cell (p:=⟨Zn,1,none⟩) (show Zn<Zn+2 by omega)).trans y1;clear hHeld;refine hK.out _ _ cx4 fun hHeld=>?_;clear hK K
     try simp only [qq]
     refine wpL_ready (rs:=[13]) kr_ sm_ ?_;refine AllReadyL.cons dc_ (o:=⟨some 69,.call ⟨.builtin .append,#[.tmp 64,.tmp 68],#[22,22]⟩,22,_,_,none⟩) rfl (fun K hK=>?_) AllReadyL.nil;refine step_app_n rfl (.tmp 64) (.tmp 68) 22 rfl (Zn+2) 9 i0 (.string ⟨#[]⟩) 1 16 underlying22 hi hz0 hz1 hz2 rfl dc_ (.slice (some ⟨g5,0,none⟩) (k+1) c905) (k+1) ((ts.take k).map Value.string++[.string t]) rfl R5.out ⟨g,off,none⟩ (ts.length - k) (tc - k) ((ts.drop k).map Value.string) rfl HL3.out (HS3.out x4 bx4) HO3.out HM5.out HM6.out l2x4 ?_;intro v6 x5 ho6 hg6 hn6;have hm6:=hn6 sm_;obtain ⟨g6,c906,hv6⟩:=row_some ho6 hm6;subst hv6;have bx5:Below (Zn+2) V x5:=bx4.trans (gb_below hg6 (fun j e=>own_blk R5.out e) l2x4);have l2x5:Zn+2<=x5.heap.size:=Nat.le_trans hVz bx5.size;have lx5:x4.heap.size<=x5.heap.size:=hg6.size;have R6:=hI_ ho6;have cx5:=(bx5.cell (p:=⟨Zn,1,none⟩) (show Zn<Zn+2 by omega)).trans y1;clear hHeld;refine hK.out _ _ cx5 fun hHeld=>?_;clear hK K
     try simp only [qq]
     refine wpL_take kr_ (i:=14) (oi:=⟨some 70,.fieldAddr 29 (.tmp 2) 1,0,_,_,none⟩) (v:=?_) rfl kr_ kr_ kr_ (fun _ _ _ h=>h) (Or.inl ⟨by rfl,?_⟩) (by assumption) ?_;rotate_left
     · intro wq hSw
       (try dsimp only at hSw)
       go_simp
       try with_reducible rfl
     try simp only [qq]
     refine wpL_ready (rs:=[15]) kr_ sm_ ?_;refine AllReadyL.last (o:=⟨none,.store 22 (.tmp 70) (.tmp 69),0,_,_,none⟩) rfl fun K hK=>?_;have f1:=(oz.below bx5 om_) 1;have RF:x5.ownsRow (Zn+2) 9 1 (.slice (some ⟨g6,0,none⟩) (k+1+(ts.length - k)) c906) (k+1+(ts.length - k)) ((ts.take k++[t]++ts.drop k).map Value.string):=by
      have h:=R6.out;rw [List.map_append,List.map_append];exact h
     have q1:=(bx5.cell (p:=⟨Zn,1,none⟩) (show Zn<Zn+2 by omega)).trans y1;go_simp;clear hHeld;refine hK.out _ _ ?_;clear hK K
     try simp only [qq]
     refine wpL_done kr_ ?_ _;exact hKK _ _ _ _ _ _ _ _ _ _ _ _ _ _ _ _ _ _ bx5 RF
 · go_simp
   have bx1:Below (Zn+2) V ((u.alloc (.cells #[.string t] 9)).drew):=(bu.alloc om_ _).drew;have sx1:Hid (((u.alloc (.cells #[.string t] 9)).drew).heap.size=u.heap.size+1):=hI_ sm_;have lx1:u.heap.size<((u.alloc (.cells #[.string t] 9)).drew).heap.size:=sm_;have kx1:Hid (Below u.heap.size u ((u.alloc (.cells #[.string t] 9)).drew)):=hI_ (bA_.drew);have BQ:Hid (BlkAt ((u.alloc (.cells #[.string t] 9)).drew) u.heap.size [.string t]):=hI_ (blk_new u [.string t] 9);have cx1:=(bx1.cell (p:=⟨Zn,1,none⟩) (show Zn<Zn+2 by omega)).trans y1;clear hHeld;refine hK.out _ _ cx1 fun hHeld=>?_;clear hK K
   try simp only [qq]
   generalize ((u.alloc (.cells #[.string t] 9)).drew)=x1 at*;have l2x1:Zn+2<=x1.heap.size:=Nat.le_trans hVz bx1.size;refine wpL_ready (rs:=[0]) kr_ sm_ ?_;refine AllReadyL.cons dc_ (o:=⟨some 56,.buildSlice 22 0 #[],22,_,_,none⟩) rfl (fun K hK=>?_) AllReadyL.nil;go_simp;have bx2:Below (Zn+2) V (x1.alloc (.cells #[] 9)):=(bx1.alloc om_ _);have sx2:Hid ((x1.alloc (.cells #[] 9)).heap.size=x1.heap.size+1):=hI_ sm_;have lx2:x1.heap.size<(x1.alloc (.cells #[] 9)).heap.size:=sm_;have kx2:Hid (Below x1.heap.size x1 (x1.alloc (.cells #[] 9))):=hI_ bA_;have RW:Hid ((x1.alloc (.cells #[] 9)).ownsRow (Zn+2) 9 1 (.slice (some ⟨x1.heap.size,0,none⟩) 0 0) 0 []):=hI_ (World.ownsRow_made (base:=Zn+2) (e:=9) (size:=1) x1 #[] 0 om_ (Nat.zero_le _) rfl);have cx2:=(bx2.cell (p:=⟨Zn,1,none⟩) (show Zn<Zn+2 by omega)).trans y1;clear hHeld;refine hK.out _ _ cx2 fun hHeld=>?_;clear hK K
   try simp only [qq]
   have BQ1:=hI_ (BQ.out.below kx2.out om_);generalize (x1.alloc (.cells #[] 9))=x2 at*;have l2x2:Zn+2<=x2.heap.size:=Nat.le_trans hVz bx2.size;clear BQ;have BQ:=BQ1;refine wpL_ready (rs:=[5]) kr_ sm_ ?_;refine AllReadyL.cons dc_ (o:=⟨some 61,.call ⟨.builtin .append,#[.tmp 56,.tmp 60],#[22,22]⟩,22,_,_,none⟩) rfl (fun K hK=>?_) AllReadyL.nil;refine step_app_n rfl (.tmp 56) (.tmp 60) 22 rfl (Zn+2) 9 i0 (.string ⟨#[]⟩) 1 16 underlying22 hi hz0 hz1 hz2 rfl dc_ (.slice (some ⟨x1.heap.size,0,none⟩) 0 0) (0) ([]) rfl RW.out ⟨g,0,none⟩ (k) (tc) ((ts.take k).map Value.string) rfl HL1.out (HS1.out x2 bx2) HO1.out HM1.out HM2.out l2x2 ?_;intro v4 x3 ho4 hg4 hn4;have hm4:=hn4 sm_;rw [Nat.zero_add,List.nil_append] at ho4;obtain ⟨g4,c904,hv4⟩:=row_some ho4 hm4;subst hv4;have bx3:Below (Zn+2) V x3:=bx2.trans (gb_below hg4 (fun j e=>own_blk RW.out e) l2x2);have l2x3:Zn+2<=x3.heap.size:=Nat.le_trans hVz bx3.size;have lx3:x2.heap.size<=x3.heap.size:=hg4.size;have R4:=hI_ ho4;have cx3:=(bx3.cell (p:=⟨Zn,1,none⟩) (show Zn<Zn+2 by omega)).trans y1;have BQ2:=hI_ (blk_kept BQ.out hg4 om_ (fun e=>by have e2:u.heap.size=x1.heap.size:=Option.some.inj e;omega));clear BQ;have BQ:=BQ2;clear hHeld;refine hK.out _ _ cx3 fun hHeld=>?_;clear hK K
   try simp only [qq]
   refine wpL_ready (rs:=[8]) kr_ sm_ ?_;refine AllReadyL.cons dc_ (o:=⟨some 64,.call ⟨.builtin .append,#[.tmp 61,.tmp 63],#[22,22]⟩,22,_,_,none⟩) rfl (fun K hK=>?_) AllReadyL.nil;refine step_app_n rfl (.tmp 61) (.tmp 63) 22 rfl (Zn+2) 9 i0 (.string ⟨#[]⟩) 1 16 underlying22 hi hz0 hz1 hz2 rfl dc_ (.slice (some ⟨g4,0,none⟩) k c904) (k) ((ts.take k).map Value.string) rfl R4.out ⟨u.heap.size,0,none⟩ (1) (1) ([.string t]) rfl rfl (blk_src BQ.out) (by simp [Value.oneCell']) HM3.out HM4.out l2x3 ?_;intro v5 x4 ho5 hg5 hn5;have hm5:=hn5 sm_;obtain ⟨g5,c905,hv5⟩:=row_some ho5 hm5;subst hv5;have bx4:Below (Zn+2) V x4:=bx3.trans (gb_below hg5 (fun j e=>own_blk R4.out e) l2x3);have l2x4:Zn+2<=x4.heap.size:=Nat.le_trans hVz bx4.size;have lx4:x3.heap.size<=x4.heap.size:=hg5.size;have R5:=hI_ ho5;have cx4:=(bx4.cell (p:=⟨Zn,1,none⟩) (show Zn<Zn+2 by omega)).trans y1;clear hHeld;refine hK.out _ _ cx4 fun hHeld=>?_;clear hK K
   try simp only [qq]
   refine wpL_ready (rs:=[13]) kr_ sm_ ?_;refine AllReadyL.cons dc_ (o:=⟨some 69,.call ⟨.builtin .append,#[.tmp 64,.tmp 68],#[22,22]⟩,22,_,_,none⟩) rfl (fun K hK=>?_) AllReadyL.nil;refine step_app_n rfl (.tmp 64) (.tmp 68) 22 rfl (Zn+2) 9 i0 (.string ⟨#[]⟩) 1 16 underlying22 hi hz0 hz1 hz2 rfl dc_ (.slice (some ⟨g5,0,none⟩) (k+1) c905) (k+1) ((ts.take k).map Value.string++[.string t]) rfl R5.out ⟨g,off,none⟩ (ts.length - k) (tc - k) ((ts.drop k).map Value.string) rfl HL3.out (HS3.out x4 bx4) HO3.out HM5.out HM6.out l2x4 ?_;intro v6 x5 ho6 hg6 hn6;have hm6:=hn6 sm_;obtain ⟨g6,c906,hv6⟩:=row_some ho6 hm6;subst hv6;have bx5:Below (Zn+2) V x5:=bx4.trans (gb_below hg6 (fun j e=>own_blk R5.out e) l2x4);have l2x5:Zn+2<=x5.heap.size:=Nat.le_trans hVz bx5.size;have lx5:x4.heap.size<=x5.heap.size:=hg6.size;have R6:=hI_ ho6;have cx5:=(bx5.cell (p:=⟨Zn,1,none⟩) (show Zn<Zn+2 by omega)).trans y1;clear hHeld;refine hK.out _ _ cx5 fun hHeld=>?_;clear hK K
   try simp only [qq]
   refine wpL_take kr_ (i:=14) (oi:=⟨some 70,.fieldAddr 29 (.tmp 2) 1,0,_,_,none⟩) (v:=?_) rfl kr_ kr_ kr_ (fun _ _ _ h=>h) (Or.inl ⟨by rfl,?_⟩) (by assumption) ?_;rotate_left
   · intro wq hSw
     (try dsimp only at hSw)
     go_simp
     try with_reducible rfl
   try simp only [qq]
   refine wpL_ready (rs:=[15]) kr_ sm_ ?_;refine AllReadyL.last (o:=⟨none,.store 22 (.tmp 70) (.tmp 69),0,_,_,none⟩) rfl fun K hK=>?_;have f1:=(oz.below bx5 om_) 1;have RF:x5.ownsRow (Zn+2) 9 1 (.slice (some ⟨g6,0,none⟩) (k+1+(ts.length - k)) c906) (k+1+(ts.length - k)) ((ts.take k++[t]++ts.drop k).map Value.string):=by
    have h:=R6.out;rw [List.map_append,List.map_append];exact h
   have q1:=(bx5.cell (p:=⟨Zn,1,none⟩) (show Zn<Zn+2 by omega)).trans y1;go_simp;clear hHeld;refine hK.out _ _ ?_;clear hK K
   try simp only [qq]
   refine wpL_done kr_ ?_ _;exact hKK _ _ _ _ _ _ _ _ _ _ _ _ _ _ _ _ _ _ bx5 RF
theorem c71 (W:Int) (ts:List ByteArray) (t:ByteArray) (N g tc rn rc:Nat) (ra:Option Addr) (w:World) (hA:AscT W ts) (hl:ts.length<=1000000) (hs:∀ i,(ts.getD i ByteArray.empty).size<=1048700) (ht:t.size<=1048700) (ho:w.ownsRow N 9 1 (.slice (some ⟨g,0,none⟩) ts.length tc) ts.length (ts.map Value.string)) (hN:N<=w.heap.size):
 Calls prog 71 #[.agg #[.int .i64 W,.slice (some ⟨g,0,none⟩) ts.length tc,.slice ra rn rc],.string t] w fun e w'=>(∃ g' c',e=.returned (.tuple #[.agg #[.int .i64 W,.slice (some ⟨g',0,none⟩) (putT W t ts).1.length c',.slice ra rn rc],.bool (putT W t ts).2])/\w'.ownsRow N 9 1 (.slice (some ⟨g',0,none⟩) (putT W t ts).1.length c') (putT W t ts).1.length ((putT W t ts).1.map Value.string))/\Below w.heap.size w w':=by
 obtain ⟨i0,hi,hz0,hz1,hz2⟩:=info_parts' info9;obtain ⟨hgl,htc,htm,hcs⟩:=row_strs ho;have hB0:Below w.heap.size w ((w.alloc (.cells #[.int .i64 W,.slice (some ⟨g,0,none⟩) ts.length tc,.slice ra rn rc] 29)).alloc (.cells #[.int .i64 0,.slice none 0 0,.slice none 0 0] 29)):=bA_.alloc sm_ _;have sV:Hid (((w.alloc (.cells #[.int .i64 W,.slice (some ⟨g,0,none⟩) ts.length tc,.slice ra rn rc] 29)).alloc (.cells #[.int .i64 0,.slice none 0 0,.slice none 0 0] 29)).heap.size=w.heap.size+2):=hI_ sm_;have BS:Hid (BlkAt ((w.alloc (.cells #[.int .i64 W,.slice (some ⟨g,0,none⟩) ts.length tc,.slice ra rn rc] 29)).alloc (.cells #[.int .i64 0,.slice none 0 0,.slice none 0 0] 29)) w.heap.size [.int .i64 W,.slice (some ⟨g,0,none⟩) ts.length tc,.slice ra rn rc]):=hI_ ((blk_new w [.int .i64 W,.slice (some ⟨g,0,none⟩) ts.length tc,.slice ra rn rc] 29).below (N:=w.heap.size+1) ((Below.refl _ _).alloc sm_ _) om_);have OS:Hid (OpnAt ((w.alloc (.cells #[.int .i64 W,.slice (some ⟨g,0,none⟩) ts.length tc,.slice ra rn rc] 29)).alloc (.cells #[.int .i64 0,.slice none 0 0,.slice none 0 0] 29)) w.heap.size):=hI_ ((opn_new w #[.int .i64 W,.slice (some ⟨g,0,none⟩) ts.length tc,.slice ra rn rc] 29).below (N:=w.heap.size+1) ((Below.refl _ _).alloc sm_ _) om_);have BZ:Hid (BlkAt ((w.alloc (.cells #[.int .i64 W,.slice (some ⟨g,0,none⟩) ts.length tc,.slice ra rn rc] 29)).alloc (.cells #[.int .i64 0,.slice none 0 0,.slice none 0 0] 29)) (w.heap.size+1) [.int .i64 0,.slice none 0 0,.slice none 0 0]):=by have h:=blk_new (w.alloc (.cells #[.int .i64 W,.slice (some ⟨g,0,none⟩) ts.length tc,.slice ra rn rc] 29)) [.int .i64 0,.slice none 0 0,.slice none 0 0] 29;rw [show (w.alloc (.cells #[.int .i64 W,.slice (some ⟨g,0,none⟩) ts.length tc,.slice ra rn rc] 29)).heap.size=w.heap.size+1 by simp] at h;exact h
 have OZ:Hid (OpnAt ((w.alloc (.cells #[.int .i64 W,.slice (some ⟨g,0,none⟩) ts.length tc,.slice ra rn rc] 29)).alloc (.cells #[.int .i64 0,.slice none 0 0,.slice none 0 0] 29)) (w.heap.size+1)):=by have h:=opn_new (w.alloc (.cells #[.int .i64 W,.slice (some ⟨g,0,none⟩) ts.length tc,.slice ra rn rc] 29)) #[.int .i64 0,.slice none 0 0,.slice none 0 0] 29;rw [show (w.alloc (.cells #[.int .i64 W,.slice (some ⟨g,0,none⟩) ts.length tc,.slice ra rn rc] 29)).heap.size=w.heap.size+1 by simp] at h;exact h
 have HC:Hid (∀ k,k<ts.length->((w.alloc (.cells #[.int .i64 W,.slice (some ⟨g,0,none⟩) ts.length tc,.slice ra rn rc] 29)).alloc (.cells #[.int .i64 0,.slice none 0 0,.slice none 0 0] 29)).cell? ⟨g,k,none⟩=some (.string (ts.getD k ByteArray.empty))):=hI_ (fun k hk=>(hB0.cell (p:=⟨g,k,none⟩) hgl).trans (hcs k hk));have HO:=hI_ ho;have HS:=hI_ hs;have y0:=BS.out 0 _ rfl;have y1:=BS.out 1 _ rfl;have y2:=BS.out 2 _ rfl;clear ho hcs hs;go_enter func71,ntmps71
 go_wp2_with (refine (c109 t W _ ht).mono ?_;rintro e w1 ⟨rfl,hb1⟩)
 generalize hV:((w.alloc (.cells #[.int .i64 W,.slice (some ⟨g,0,none⟩) ts.length tc,.slice ra rn rc] 29)).alloc (.cells #[.int .i64 0,.slice none 0 0,.slice none 0 0] 29))=V at*;clear hV;rw [sV.out] at hb1;go_loopw [7] (fun i wr=>∃ k:Nat,k<=ts.length/\i=.int .i64 k/\Hid (∀ j,j<k->bef (sumS (ts.getD j ByteArray.empty) W) (sumS t W)=true)/\Below (w.heap.size+2) V wr) (fun i _=>ts.length - (Go.RowKit.intOf i).toNat)
 case atStart=>exact ⟨0,Nat.zero_le _,rfl,fun j hj=>absurd hj (Nat.not_lt_zero _),hb1⟩
 case round=>
  obtain ⟨k,hk,rfl,hj,hb⟩:=hrel;have hwz:w.heap.size+2<=wr.heap.size:=by have:=hb.size;rw [sV.out] at this;exact this
  have z0:=(hb.cell (p:=⟨w.heap.size,0,none⟩) (show w.heap.size<w.heap.size+2 by omega)).trans y0;have z1:=(hb.cell (p:=⟨w.heap.size,1,none⟩) (show w.heap.size<w.heap.size+2 by omega)).trans y1;by_cases hlt:k<ts.length
  · have yk:=HC.out k hlt
    have zk:=(hb.cell (p:=⟨g,k,none⟩) (show g<w.heap.size+2 by omega)).trans yk;have hxl:=HS.out k;generalize hx:ts.getD k ByteArray.empty=x at*;have HX:=hI_ hx;clear hx
    go_wp2_with fail
    refine wp_region_held_drew (S:=(fun u=>u.cell? ⟨w.heap.size,0,none⟩=some (.int .i64 W)/\u.cell? ⟨w.heap.size,1,none⟩=some (.slice (some ⟨g,0,none⟩) ts.length tc)/\u.cell? ⟨g,k,none⟩=some (.string x))) kr_ ?_ fun hHeld=>?_
    · exact ⟨z0,z1,zk⟩
    refine tq 0 hHeld ?_
    try simp only [qq]
    refine tq 1 hHeld ?_
    try simp only [qq]
    refine tq 2 hHeld ?_
    try simp only [qq]
    refine tq 3 hHeld ?_
    try simp only [qq]
    refine tq 4 hHeld ?_
    try simp only [qq]
    refine tq 5 hHeld ?_
    try simp only [qq]
    refine tq 6 hHeld ?_
    try simp only [qq]
    refine tq 7 hHeld ?_
    try simp only [qq]
    refine tq 8 hHeld ?_
    try simp only [qq]
    refine tq 9 hHeld ?_
    try simp only [qq]
    refine tq 10 hHeld ?_
    try simp only [qq]
    refine tq 11 hHeld ?_
    try simp only [qq]
    refine tq 12 hHeld ?_
    try simp only [qq]
    refine tq 14 hHeld ?_
    try simp only [qq]
    refine rq 13 fun K hK=>?_;go_simp;refine (c109 x W _ hxl).mono ?_;rintro e u1 ⟨rfl,hb1⟩
    go_wp2_with fail
    have hB1:=hb.drew.trans (hb1.mono (show w.heap.size+2<=_ by simpa using hwz));have hwz1:w.heap.size+2<=u1.heap.size:=by have:=hB1.size;rw [sV.out] at this;exact this
    have p0:=(hB1.cell (p:=⟨w.heap.size,0,none⟩) (show w.heap.size<w.heap.size+2 by omega)).trans y0;have p1:=(hB1.cell (p:=⟨w.heap.size,1,none⟩) (show w.heap.size<w.heap.size+2 by omega)).trans y1;have pk:=(hB1.cell (p:=⟨g,k,none⟩) (show g<w.heap.size+2 by omega)).trans yk;clear hHeld hb1;refine hK.out _ _ ⟨p0,p1,pk⟩ fun hHeld=>?_;clear hK K
    try simp only [qq]
    refine tq 15 hHeld ?_
    try simp only [qq]
    refine tq 16 hHeld ?_
    try simp only [qq]
    refine wpAnyH_done kr_ ?_ _;clear hHeld;cases hy:Op.bytesLess (sumS x W).toList (sumS t W).toList
    · go_wp2_with fail
      refine wp_region_held_drew (S:=(fun u=>u.cell? ⟨w.heap.size,0,none⟩=some (.int .i64 W)/\u.cell? ⟨w.heap.size,1,none⟩=some (.slice (some ⟨g,0,none⟩) ts.length tc)/\u.cell? ⟨g,k,none⟩=some (.string x))) kr_ ?_ fun hHeld=>?_
      · exact ⟨p0,p1,pk⟩
      refine tq 0 hHeld ?_
      try simp only [qq]
      refine tq 1 hHeld ?_
      try simp only [qq]
      refine tq 2 hHeld ?_
      try simp only [qq]
      refine tq 3 hHeld ?_
      try simp only [qq]
      refine tq 4 hHeld ?_
      try simp only [qq]
      refine tq 5 hHeld ?_
      try simp only [qq]
      refine tq 6 hHeld ?_
      try simp only [qq]
      refine tq 7 hHeld ?_
      try simp only [qq]
      refine tq 8 hHeld ?_
      try simp only [qq]
      refine tq 9 hHeld ?_
      try simp only [qq]
      refine tq 10 hHeld ?_
      try simp only [qq]
      refine tq 11 hHeld ?_
      try simp only [qq]
      refine tq 12 hHeld ?_
      try simp only [qq]
      refine tq 14 hHeld ?_
      try simp only [qq]
      refine rq 13 fun K hK=>?_;go_simp;refine (c109 x W _ hxl).mono ?_;rintro e u2 ⟨rfl,hb1⟩
      go_wp2_with fail
      have hB2:=hB1.drew.trans (hb1.mono (show w.heap.size+2<=_ by simpa using hwz1));have hwz2:w.heap.size+2<=u2.heap.size:=by have:=hB2.size;rw [sV.out] at this;exact this
      have q0:=(hB2.cell (p:=⟨w.heap.size,0,none⟩) (show w.heap.size<w.heap.size+2 by omega)).trans y0;have q1:=(hB2.cell (p:=⟨w.heap.size,1,none⟩) (show w.heap.size<w.heap.size+2 by omega)).trans y1;have qk:=(hB2.cell (p:=⟨g,k,none⟩) (show g<w.heap.size+2 by omega)).trans yk;clear hHeld hb1;refine hK.out _ _ ⟨q0,q1,qk⟩ fun hHeld=>?_;clear hK K
      try simp only [qq]
      refine tq 15 hHeld ?_
      try simp only [qq]
      refine tq 16 hHeld ?_
      try simp only [qq]
      refine wpAnyH_done kr_ ?_ _;clear hHeld;cases he:((sumS x W).toList==(sumS t W).toList)
      · go_wp2_with fail
        have hnb:bef (sumS x W) (sumS t W)=false:=by rw [<- bef_less];exact hy
        have hne:sumS x W≠sumS t W:=by have:=(beq_list _ _).symm.trans he;simpa using this
        have HP:Hid (putT W t ts=(ts.take k++[t]++ts.drop k,true)):=put_new hA hk hj.out (fun _=>by rw [HX.out];exact ⟨hnb,hne⟩);clear hnb hne hy he;refine r7 hB2 y1 OS.out hgl HC.out hk htc htm hl (by rw [sV.out];exact Nat.le_refl _) ?_;intro y56 y57 y58 y59 y60 y61 y62 y63 y64 y65 y66 y67 y68 y69 y70 g6 c906 E bE RE;have hn:k+1+(ts.length - k)=(ts.take k++[t]++ts.drop k).length:=so_;generalize k+1+(ts.length - k)=n6 at*;have HN:=hI_ hn;have HRE:=hI_ RE;have bS:=(BS.out.below bE om_).set 1 (.slice (some ⟨g6,0,none⟩) n6 c906) sm_;have w0:=bS 0 _ rfl;have w1':=bS 1 _ rfl;have w2:=bS 2 _ rfl;have bz:=(BZ.out.below bE om_).other ⟨w.heap.size,1,none⟩ (.slice (some ⟨g6,0,none⟩) n6 c906) (by show w.heap.size≠w.heap.size+1;omega);have oz:=(OZ.out.below bE om_).set ⟨w.heap.size,1,none⟩ (.slice (some ⟨g6,0,none⟩) n6 c906);have r0:=bz 0 _ rfl;have r1:=bz 1 _ rfl;have r2:=bz 2 _ rfl;have f0:=oz 0;have f1:=oz 1;have f2:=oz 2;have ZE:BlkAt ((((E.setCell ⟨w.heap.size,1,none⟩ (.slice (some ⟨g6,0,none⟩) n6 c906)).setCell ⟨w.heap.size+1,0,none⟩ (.int .i64 W)).setCell ⟨w.heap.size+1,1,none⟩ (.slice (some ⟨g6,0,none⟩) n6 c906)).setCell ⟨w.heap.size+1,2,none⟩ (.slice ra rn rc)) (w.heap.size+1) [.int .i64 W,.slice (some ⟨g6,0,none⟩) n6 c906,.slice ra rn rc]:=((bz.set 0 _ sm_).set 1 _ sm_).set 2 _ sm_;have e0:=ZE 0 _ rfl;have e1:=ZE 1 _ rfl;have e2:=ZE 2 _ rfl;have BE:Hid (Below w.heap.size w ((((E.setCell ⟨w.heap.size,1,none⟩ (.slice (some ⟨g6,0,none⟩) n6 c906)).setCell ⟨w.heap.size+1,0,none⟩ (.int .i64 W)).setCell ⟨w.heap.size+1,1,none⟩ (.slice (some ⟨g6,0,none⟩) n6 c906)).setCell ⟨w.heap.size+1,2,none⟩ (.slice ra rn rc))):=hI_ (((((hB0.trans (bE.mono om_)).setCell (p:=⟨w.heap.size,1,none⟩) lr_ _).setCell (p:=⟨w.heap.size+1,0,none⟩) (Nat.le_succ _) _).setCell (p:=⟨w.heap.size+1,1,none⟩) (Nat.le_succ _) _).setCell (p:=⟨w.heap.size+1,2,none⟩) (Nat.le_succ _) _);have HOW:Hid (((((E.setCell ⟨w.heap.size,1,none⟩ (.slice (some ⟨g6,0,none⟩) n6 c906)).setCell ⟨w.heap.size+1,0,none⟩ (.int .i64 W)).setCell ⟨w.heap.size+1,1,none⟩ (.slice (some ⟨g6,0,none⟩) n6 c906)).setCell ⟨w.heap.size+1,2,none⟩ (.slice ra rn rc)).ownsRow N 9 1 (.slice (some ⟨g6,0,none⟩) n6 c906) n6 ((ts.take k++[t]++ts.drop k).map Value.string)):=hI_ (own_low (own_set (own_set (own_set (own_set HRE.out _ _ (by show w.heap.size<w.heap.size+2;omega)) _ _ (by show w.heap.size+1<w.heap.size+2;omega)) _ _ (by show w.heap.size+1<w.heap.size+2;omega)) _ _ (by show w.heap.size+1<w.heap.size+2;omega)) om_);clear hn RE ZE bS bz oz;go_wp2;refine bodyPost_ret (v:=.tuple #[.agg #[.int .i64 W,.slice (some ⟨g6,0,none⟩) n6 c906,.slice ra rn rc],.bool true]) (by simp [results,Tryz.results71,go_sem,e0,e1,e2]) rfl ⟨⟨g6,c906,?_,?_⟩,BE.out⟩
        · rw [HP.out,HN.out]
        · rw [HP.out]
          have h:=HOW.out;rw [HN.out] at h;rw [HN.out];exact h
      · go_wp2_with fail
        have q2:=(hB2.cell (p:=⟨w.heap.size,2,none⟩) (show w.heap.size<w.heap.size+2 by omega)).trans y2;have bz:=BZ.out.below hB2 om_;have oz:=OZ.out.below hB2 om_;have HP:Hid (putT W t ts=(ts,decide (x=t))):=by
         have h:=put_there (t:=t) hA hlt (by rw [HX.out];have:=(beq_list _ _).symm.trans he;simpa using this);rw [HX.out] at h;exact h
        refine wp_region_held_drew (S:=(fun u=>u.cell? ⟨w.heap.size,0,none⟩=some (.int .i64 W)/\u.cell? ⟨w.heap.size,1,none⟩=some (.slice (some ⟨g,0,none⟩) ts.length tc)/\u.cell? ⟨w.heap.size,2,none⟩=some (.slice ra rn rc)/\u.cell? ⟨g,k,none⟩=some (.string x))) kr_ ?_ fun hHeld=>?_
        · exact ⟨q0,q1,q2,qk⟩
        refine tq 0 hHeld ?_
        try simp only [qq]
        refine tq 1 hHeld ?_
        try simp only [qq]
        refine tq 2 hHeld ?_
        try simp only [qq]
        refine tq 3 hHeld ?_
        try simp only [qq]
        refine tq 4 hHeld ?_
        try simp only [qq]
        refine tq 5 hHeld ?_
        try simp only [qq]
        refine tq 6 hHeld ?_
        try simp only [qq]
        refine tq 7 hHeld ?_
        try simp only [qq]
        refine rq 8 fun K hK=>?_;refine step_store_blk rfl 29 (.tmp 4) (.tmp 48) rfl (w.heap.size+1) 0 rfl [.int .i64 W,.slice (some ⟨g,0,none⟩) ts.length tc,.slice ra rn rc] rfl (blk_some bz rfl) oz (by simp [Value.oneCell']) kr_ rfl ?_;clear hHeld;refine st_overB (old:=[.int .i64 0,.slice none 0 0,.slice none 0 0]) (N:=w.heap.size+1) rfl bz oz lr_ ?_;intro E bE ZE OE hE;have bE1:Below (w.heap.size+1) V E:=(hB2.drew.mono om_).trans bE;have x0:=(bE1.cell (p:=⟨w.heap.size,0,none⟩) (show w.heap.size<w.heap.size+1 by omega)).trans y0;have x1:=(bE1.cell (p:=⟨w.heap.size,1,none⟩) (show w.heap.size<w.heap.size+1 by omega)).trans y1;have x2:=(bE1.cell (p:=⟨w.heap.size,2,none⟩) (show w.heap.size<w.heap.size+1 by omega)).trans y2;have xk:=(bE1.cell (p:=⟨g,k,none⟩) (show g<w.heap.size+1 by omega)).trans yk;refine hK.out _ _ ⟨x0,x1,x2,xk⟩ fun hHeld=>?_;clear hK K
        try simp only [qq]
        refine tq 9 hHeld ?_
        try simp only [qq]
        refine wpAnyH_done kr_ ?_ _;clear hHeld;have e0:=ZE 0 _ rfl;have e1:=ZE 1 _ rfl;have e2:=ZE 2 _ rfl;have BE:Below w.heap.size w E:=hB0.trans (bE1.mono om_);go_wp2;refine bodyPost_ret (v:=.tuple #[.agg #[.int .i64 W,.slice (some ⟨g,0,none⟩) ts.length tc,.slice ra rn rc],.bool (x.toList==t.toList)]) (by simp [results,Tryz.results71,go_sem,e0,e1,e2]) rfl ⟨⟨g,tc,?_,?_⟩,BE⟩
        · rw [HP.out,beq_list]
        · rw [HP.out]
          exact own_below HO.out BE
    · go_wp2
      go_roundw
      case rel=>exact ⟨k+1,om_,by go_num,fun j hj2=>by
       rcases Nat.lt_or_ge j k with h | h
       · exact hj.out j h
       · obtain rfl:j=k:=om_
         rw [HX.out,<- bef_less];exact hy,hB1⟩
      case measure=>simp [Go.RowKit.intOf];omega
  · go_wp2_with fail
    refine wp_region_held_drew (S:=(fun u=>u.cell? ⟨w.heap.size,0,none⟩=some (.int .i64 W)/\u.cell? ⟨w.heap.size,1,none⟩=some (.slice (some ⟨g,0,none⟩) ts.length tc))) kr_ ?_ fun hHeld=>?_
    · exact ⟨z0,z1⟩
    refine tq 0 hHeld ?_
    try simp only [qq]
    refine tq 1 hHeld ?_
    try simp only [qq]
    refine tq 2 hHeld ?_
    try simp only [qq]
    refine tq 3 hHeld ?_
    try simp only [qq]
    refine tq 4 hHeld ?_
    try simp only [qq]
    refine tq 5 hHeld ?_
    try simp only [qq]
    refine uq 6 hHeld ?_
    try simp only [qq]
    refine uq 7 hHeld ?_
    try simp only [qq]
    refine uq 8 hHeld ?_
    try simp only [qq]
    refine uq 9 hHeld ?_
    try simp only [qq]
    refine uq 10 hHeld ?_
    try simp only [qq]
    refine uq 11 hHeld ?_
    try simp only [qq]
    refine uq 12 hHeld ?_
    try simp only [qq]
    refine uq 13 hHeld ?_
    try simp only [qq]
    refine uq 14 hHeld ?_
    try simp only [qq]
    refine uq 15 hHeld ?_
    try simp only [qq]
    refine tq 16 hHeld ?_
    try simp only [qq]
    refine wpAnyH_done kr_ ?_ _;clear hHeld
    go_wp2_with fail
    refine wp_region_held_drew (S:=(fun u=>u.cell? ⟨w.heap.size,0,none⟩=some (.int .i64 W)/\u.cell? ⟨w.heap.size,1,none⟩=some (.slice (some ⟨g,0,none⟩) ts.length tc))) kr_ ?_ fun hHeld=>?_
    · exact ⟨z0,z1⟩
    refine tq 0 hHeld ?_
    try simp only [qq]
    refine tq 1 hHeld ?_
    try simp only [qq]
    refine tq 2 hHeld ?_
    try simp only [qq]
    refine tq 3 hHeld ?_
    try simp only [qq]
    refine tq 4 hHeld ?_
    try simp only [qq]
    refine tq 5 hHeld ?_
    try simp only [qq]
    refine uq 6 hHeld ?_
    try simp only [qq]
    refine uq 7 hHeld ?_
    try simp only [qq]
    refine uq 8 hHeld ?_
    try simp only [qq]
    refine uq 9 hHeld ?_
    try simp only [qq]
    refine uq 10 hHeld ?_
    try simp only [qq]
    refine uq 11 hHeld ?_
    try simp only [qq]
    refine uq 12 hHeld ?_
    try simp only [qq]
    refine uq 13 hHeld ?_
    try simp only [qq]
    refine uq 14 hHeld ?_
    try simp only [qq]
    refine uq 15 hHeld ?_
    try simp only [qq]
    refine tq 16 hHeld ?_
    try simp only [qq]
    refine wpAnyH_done kr_ ?_ _;clear hHeld
    go_wp2_with fail
    have HP:Hid (putT W t ts=(ts.take k++[t]++ts.drop k,true)):=put_new hA hk hj.out (fun h=>absurd h hlt);refine r7 hb.drew.drew y1 OS.out hgl HC.out hk htc htm hl (by rw [sV.out];exact Nat.le_refl _) ?_;intro y56 y57 y58 y59 y60 y61 y62 y63 y64 y65 y66 y67 y68 y69 y70 g6 c906 E bE RE;have hn:k+1+(ts.length - k)=(ts.take k++[t]++ts.drop k).length:=so_;generalize k+1+(ts.length - k)=n6 at*;have HN:=hI_ hn;have HRE:=hI_ RE;have bS:=(BS.out.below bE om_).set 1 (.slice (some ⟨g6,0,none⟩) n6 c906) sm_;have w0:=bS 0 _ rfl;have w1':=bS 1 _ rfl;have w2:=bS 2 _ rfl;have bz:=(BZ.out.below bE om_).other ⟨w.heap.size,1,none⟩ (.slice (some ⟨g6,0,none⟩) n6 c906) (by show w.heap.size≠w.heap.size+1;omega);have oz:=(OZ.out.below bE om_).set ⟨w.heap.size,1,none⟩ (.slice (some ⟨g6,0,none⟩) n6 c906);have r0:=bz 0 _ rfl;have r1:=bz 1 _ rfl;have r2:=bz 2 _ rfl;have f0:=oz 0;have f1:=oz 1;have f2:=oz 2;have ZE:BlkAt ((((E.setCell ⟨w.heap.size,1,none⟩ (.slice (some ⟨g6,0,none⟩) n6 c906)).setCell ⟨w.heap.size+1,0,none⟩ (.int .i64 W)).setCell ⟨w.heap.size+1,1,none⟩ (.slice (some ⟨g6,0,none⟩) n6 c906)).setCell ⟨w.heap.size+1,2,none⟩ (.slice ra rn rc)) (w.heap.size+1) [.int .i64 W,.slice (some ⟨g6,0,none⟩) n6 c906,.slice ra rn rc]:=((bz.set 0 _ sm_).set 1 _ sm_).set 2 _ sm_;have e0:=ZE 0 _ rfl;have e1:=ZE 1 _ rfl;have e2:=ZE 2 _ rfl;have BE:Hid (Below w.heap.size w ((((E.setCell ⟨w.heap.size,1,none⟩ (.slice (some ⟨g6,0,none⟩) n6 c906)).setCell ⟨w.heap.size+1,0,none⟩ (.int .i64 W)).setCell ⟨w.heap.size+1,1,none⟩ (.slice (some ⟨g6,0,none⟩) n6 c906)).setCell ⟨w.heap.size+1,2,none⟩ (.slice ra rn rc))):=hI_ (((((hB0.trans (bE.mono om_)).setCell (p:=⟨w.heap.size,1,none⟩) lr_ _).setCell (p:=⟨w.heap.size+1,0,none⟩) (Nat.le_succ _) _).setCell (p:=⟨w.heap.size+1,1,none⟩) (Nat.le_succ _) _).setCell (p:=⟨w.heap.size+1,2,none⟩) (Nat.le_succ _) _);have HOW:Hid (((((E.setCell ⟨w.heap.size,1,none⟩ (.slice (some ⟨g6,0,none⟩) n6 c906)).setCell ⟨w.heap.size+1,0,none⟩ (.int .i64 W)).setCell ⟨w.heap.size+1,1,none⟩ (.slice (some ⟨g6,0,none⟩) n6 c906)).setCell ⟨w.heap.size+1,2,none⟩ (.slice ra rn rc)).ownsRow N 9 1 (.slice (some ⟨g6,0,none⟩) n6 c906) n6 ((ts.take k++[t]++ts.drop k).map Value.string)):=hI_ (own_low (own_set (own_set (own_set (own_set HRE.out _ _ (by show w.heap.size<w.heap.size+2;omega)) _ _ (by show w.heap.size+1<w.heap.size+2;omega)) _ _ (by show w.heap.size+1<w.heap.size+2;omega)) _ _ (by show w.heap.size+1<w.heap.size+2;omega)) om_);clear hn RE ZE bS bz oz;go_wp2;refine bodyPost_ret (v:=.tuple #[.agg #[.int .i64 W,.slice (some ⟨g6,0,none⟩) n6 c906,.slice ra rn rc],.bool true]) (by simp [results,Tryz.results71,go_sem,e0,e1,e2]) rfl ⟨⟨g6,c906,?_,?_⟩,BE.out⟩
    · rw [HP.out,HN.out]
    · rw [HP.out]
      have h:=HOW.out;rw [HN.out] at h;rw [HN.out];exact h
theorem c72n (c:Int) (s fm:ByteArray) (w:World) (hf:fmR c s=fm) (hs:s.size<=1048700):Calls prog 72 #[.agg #[.int .i64 c,.string s]] w fun e w'=>e=.returned (.string fm)/\Below w.heap.size w w':=by
 rw [<- hf];exact c72 c s w hs
theorem lc_put {V E E':World} {N A g c g' c':Nat} {W0:Int} {T T':List ByteArray} {P:List R3} {a2:Option Addr} {c2:Nat} {vs:List Value} (h:LC V N A W0 T g c P a2 c2 vs E) (ho:E.ownsRow N 9 1 (.slice (some ⟨g',0,none⟩) T'.length c') T'.length (T'.map Value.string)) (hE:∀ k,k≠A->E'.heap[k]?=E.heap[k]?) (hb:BlkAt E' A [.int .i64 W0,.slice (some ⟨g',0,none⟩) T'.length c',.slice a2 P.length c2]) (hop:OpnAt E' A) (ht:OfT E' A 29) (hB:Below N V E'):LC V N A W0 T' g' c' P a2 c2 vs E':=by
 refine ⟨hb,h.rc.keep (fun q t hT ht2 _=>hE q (fun e=>?_)),own_keep' ho (fun q hq=>hE q (fun e=>?_)),hop,ht,h.na,hB⟩
 · have e2:=ofT_one hT (e▸h.t1)
   rcases ht2 with rfl | rfl <;> exact absurd e2 dc_
 · exact absurd (ofT_one (own_ofT ho hq) (e▸h.t1)) dc_
theorem insT_len' (W:Int) (t:ByteArray) (ts:List ByteArray):(insT W t ts).length=ts.length+1:=by
 induction ts with
 | nil=>rfl
 | cons y r ih=>
  unfold insT;split
  · rfl
  · rw [List.length_cons,ih,List.length_cons]
theorem insT_mem {W:Int} {t x:ByteArray} {ts:List ByteArray} (h:x∈insT W t ts):x=t\/x∈ts:=by
 induction ts with
 | nil=>exact .inl (List.mem_singleton.1 h)
 | cons y r ih=>
  unfold insT at h;split at h
  · rcases List.mem_cons.1 h with h | h
    · exact .inl h
    · exact .inr h
  · rcases List.mem_cons.1 h with h | h
    · exact .inr (h▸List.mem_cons_self)
    · exact (ih h).imp id (List.mem_cons_of_mem _)
theorem putT_len' (W:Int) (t:ByteArray) (ts:List ByteArray):(putT W t ts).1.length<=ts.length+1:=by
 unfold putT;split
 · exact Nat.le_succ _
 · exact Nat.le_of_eq (insT_len' W t ts)
theorem putT_mem {W:Int} {t x:ByteArray} {ts:List ByteArray} (h:x∈(putT W t ts).1):x=t\/x∈ts:=by
 unfold putT at h;split at h
 · exact .inr h
 · exact insT_mem h
theorem putAll_len' (W:Int) (a:List ByteArray):∀ s:List ByteArray×Bool,(putAll W a s).1.length<=s.1.length+a.length:=by
 induction a with
 | nil=>exact fun s=>Nat.le_refl _
 | cons t r ih=>
  intro s;have h1:=ih ((putT W t s.1).1,s.2&&(putT W t s.1).2);have h2:=putT_len' W t s.1;show (putAll W r _).1.length<=_;rw [List.length_cons];simp only [] at h1;omega
theorem putAll_mem {W:Int} {x:ByteArray} (a:List ByteArray):∀ s:List ByteArray×Bool,x∈(putAll W a s).1->x∈a\/x∈s.1:=by
 induction a with
 | nil=>exact fun s h=>.inr h
 | cons t r ih=>
  intro s h;rcases ih ((putT W t s.1).1,s.2&&(putT W t s.1).2) h with h | h
  · exact .inl (List.mem_cons_of_mem _ h)
  · rcases putT_mem h with h | h
    · exact .inl (h▸List.mem_cons_self)
    · exact .inr h
theorem putAll_snoc (W:Int) (a:List ByteArray) (t:ByteArray) (s:List ByteArray×Bool):putAll W (a++[t]) s=((putT W t (putAll W a s).1).1,(putAll W a s).2&&(putT W t (putAll W a s).1).2):=by
 rw [putAll_app];rfl
theorem askR_len' (ls:List L4):(askR ls).length<=ls.length:=by
 induction ls with
 | nil=>exact Nat.le_refl _
 | cons x r ih=>
  unfold askR;split
  · exact Nat.le_succ_of_le ih
  · exact Nat.succ_le_succ ih
def fmK (ls:List L4) (k:Nat):List ByteArray:=(askR (ls.take k)).map fun r=>fmR r.1 r.2
theorem fmK_next {ls:List L4} {k:Nat} (hk:k<ls.length):fmK ls (k+1)=fmK ls k++(if (ls.getD k l4z).has then [] else [fmR (ls.getD k l4z).cd (ls.getD k l4z).tx]):=by
 have e:ls.take (k+1)=ls.take k++[ls.getD k l4z]:=by
  rw [List.take_succ_eq_append_getElem hk];simp only [List.getD,List.getElem?_eq_getElem hk,Option.getD_some]
 unfold fmK;rw [e,askR_snoc,List.map_append];split <;> rfl
theorem fmK_len (ls:List L4) (k:Nat):(fmK ls k).length<=ls.length:=by
 unfold fmK;rw [List.length_map];have:=askR_len' (ls.take k);have:=List.length_take_le' k ls;omega
theorem fmL_K (ls:List L4) (c:Int) (t:ByteArray):fmL ls c t=fmK ls ls.length++[fmR c t]:=by
 unfold fmL fmK;rw [List.take_length,List.map_append];rfl
theorem r11 {K:Act->World->Prop} {Q:Exit->Act->World->Prop} {d0 d1 d3 d4 d5 d6 d7 d8 d9 d11 d13 d14 d15 d16 d17 d18 d19 d20 d21 d22 d23 d24 d25 d26 d27 d28 d29 d30 d31 d32 d33 d34 d35 d36 d37 d38 d39 d40 d41 d42 d43 d44 d45 d46 d47 d48 d49 d50 d51 d52 d53 d54 d55 d56 d57 d58 d59 d60 d61 d62 d63 d64 d65 d66 d67 d68 d69 d70 d71 d72 d73 d74 d75 d76 d77 d78 d79 d80 d81 d82 d83 d84 d85 d86 d87 d88 d89 d90 d91 d92 d93 d94 d95 d96 d97 d98 d99 d100 d101 d102 d103 d104 d105 d106 d107 d108 d109 d110 d111 d112 d113 d114 d115 d116 d117:Value} {N A lb g c:Nat} {W cd:Int} {tx fm:ByteArray} {T T':List ByteArray} {b':Bool} {P:List R3} {a2:Option Addr} {c2:Nat} {u:World} {k lq ln lc:Nat} (BA:BlkAt u A [.int .i64 W,.slice (some ⟨g,0,none⟩) T.length c,.slice a2 P.length c2]) (hAu:A<u.heap.size) (hlu:lb<u.heap.size) (z3:u.cell? ⟨lb,lq+k*4+2,none⟩=some (.int .i64 cd)) (z4:u.cell? ⟨lb,lq+k*4+3,none⟩=some (.string tx)) (hf:fmR cd tx=fm) (htx:tx.size<=1048700) (hfm:fm.size<=1048700) (hA:AscT W T) (hl:T.length<=1000000) (hs:∀ i,(T.getD i ByteArray.empty).size<=1048700) (hp:putT W fm T=(T',b')) (ho:u.ownsRow N 9 1 (.slice (some ⟨g,0,none⟩) T.length c) T.length (T.map Value.string)) (hN:N<=u.heap.size) (hkl:k<ln)
 (hQ:∀ (d:Nat) v c (a:Act) w,Q (.panic c) (a.put (some d) v) w->Q (.panic c) a w) (hKK:∀ (y44 y45 y46 y47 y48 y49 y50 y51 y52 y53 y54:Value) (g' c' B:Nat) (E:World),Below u.heap.size u E->u.heap.size<=B->B<E.heap.size->BlkAt E B [.int .i64 W,.slice (some ⟨g',0,none⟩) T'.length c',.slice a2 P.length c2]->E.ownsRow N 9 1 (.slice (some ⟨g',0,none⟩) T'.length c') T'.length (T'.map Value.string)->K { tmps:=#[d0,d1,.slice (some ⟨lb,lq,none⟩) ln lc,d3,d4,d5,d6,d7,d8,d9,.pointer (some ⟨A,0,none⟩),d11,.int .i64 k,.pointer (some ⟨B,0,none⟩),.bool b',d15,d16,d17,d18,d19,d20,d21,d22,d23,d24,d25,d26,d27,d28,d29,d30,d31,d32,d33,d34,d35,d36,d37,d38,d39,d40,d41,d42,d43,y44,y45,y46,y47,y48,y49,y50,y51,y52,y53,y54,d55,d56,d57,d58,d59,d60,d61,d62,d63,d64,d65,d66,d67,d68,d69,d70,d71,d72,d73,d74,d75,d76,d77,d78,d79,d80,d81,d82,d83,d84,d85,d86,d87,d88,d89,d90,d91,d92,d93,d94,d95,d96,d97,d98,d99,d100,d101,d102,d103,d104,d105,d106,d107,d108,d109,d110,d111,d112,d113,d114,d115,d116,d117],defers:=[] } E):
 Code.wp prog (Code.region 11 #[⟨some 45,.load 29 (.tmp 10),29, "l5_store.go:182",#[],none⟩,⟨some 46,.move (.tmp 2),43, "l5_store.go:182",#[],none⟩,⟨some 47,.move (.tmp 12),3, "l5_store.go:182",#[],none⟩,⟨some 48,.indexAddr 43 (.tmp 46) (.tmp 47),0, "l5_store.go:182",#[⟨1,.data⟩,⟨2,.data⟩],none⟩,⟨some 49,.fieldAddr 74 (.tmp 48) 2,0, "l5_store.go:182",#[⟨3,.data⟩],none⟩,⟨some 50,.load 45 (.tmp 49),45, "l5_store.go:182",#[⟨4,.data⟩],none⟩,⟨some 51,.call ⟨.value (.func 72),#[.tmp 50],#[45]⟩,9, "l5_store.go:182",#[⟨5,.data⟩],none⟩,⟨some 52,.call ⟨.value (.func 71),#[.tmp 45,.tmp 51],#[29,9]⟩,137, "l5_store.go:182",#[⟨0,.data⟩,⟨6,.data⟩,⟨6,.chain⟩],none⟩,⟨some 44,.move (.tmp 52),137, "l5_store.go:182",#[⟨7,.data⟩],none⟩,⟨some 53,.extract (.tmp 44) 0,29, "l5_store.go:182",#[⟨8,.data⟩],none⟩,⟨some 54,.extract (.tmp 44) 1,4, "l5_store.go:182",#[⟨8,.data⟩,⟨12,.gcOnly .lateStores⟩],none⟩,⟨some 13,.alloc 29,0, "l5_store.go:182",#[],none⟩,⟨none,.store 29 (.tmp 13) (.tmp 53),0, "l5_store.go:182",#[⟨11,.data⟩,⟨9,.data⟩,⟨7,.chain⟩,⟨0,.phase⟩,⟨1,.phase⟩,⟨2,.phase⟩,⟨3,.phase⟩,⟨4,.phase⟩,⟨5,.phase⟩,⟨6,.phase⟩,⟨7,.phase⟩,⟨8,.phase⟩,⟨9,.phase⟩,⟨10,.textOnly .lateStores⟩,⟨11,.phase⟩],none⟩,⟨some 14,.assign (.tmp 54),4, "l5_store.go:182",#[⟨10,.data⟩,⟨12,.chain⟩,⟨0,.phase⟩,⟨1,.phase⟩,⟨2,.phase⟩,⟨3,.phase⟩,⟨4,.phase⟩,⟨5,.phase⟩,⟨6,.phase⟩,⟨7,.phase⟩,⟨8,.phase⟩,⟨9,.phase⟩,⟨10,.phase⟩,⟨11,.phase⟩,⟨12,.phase⟩],none⟩] true) (Exit.then K Q) { tmps:=#[d0,d1,.slice (some ⟨lb,lq,none⟩) ln lc,d3,d4,d5,d6,d7,d8,d9,.pointer (some ⟨A,0,none⟩),d11,.int .i64 k,d13,d14,d15,d16,d17,d18,d19,d20,d21,d22,d23,d24,d25,d26,d27,d28,d29,d30,d31,d32,d33,d34,d35,d36,d37,d38,d39,d40,d41,d42,d43,d44,d45,d46,d47,d48,d49,d50,d51,d52,d53,d54,d55,d56,d57,d58,d59,d60,d61,d62,d63,d64,d65,d66,d67,d68,d69,d70,d71,d72,d73,d74,d75,d76,d77,d78,d79,d80,d81,d82,d83,d84,d85,d86,d87,d88,d89,d90,d91,d92,d93,d94,d95,d96,d97,d98,d99,d100,d101,d102,d103,d104,d105,d106,d107,d108,d109,d110,d111,d112,d113,d114,d115,d116,d117],defers:=[] } u:=by
 have z0:=BA 0 _ rfl;have z1:=BA 1 _ rfl;have z2:=BA 2 _ rfl;have HF:=hI_ hf;have ku:Below u.heap.size u u:=Below.refl _ _;have lu:u.heap.size<=u.heap.size:=Nat.le_refl _;have h25:∀ v,Below u.heap.size u v->Calls prog 71 #[.agg #[.int .i64 W,.slice (some ⟨g,0,none⟩) T.length c,.slice a2 P.length c2],.string fm] v fun e w'=>(∃ g' c',e=.returned (.tuple #[.agg #[.int .i64 W,.slice (some ⟨g',0,none⟩) T'.length c',.slice a2 P.length c2],.bool b'])/\w'.ownsRow N 9 1 (.slice (some ⟨g',0,none⟩) T'.length c') T'.length (T'.map Value.string))/\Below v.heap.size v w':=fun v hv=>by
  have h:=c71 W T fm N g c P.length c2 a2 v hA hl hs hfm (own_below ho hv) (Nat.le_trans hN hv.size);rw [hp] at h;exact h
 clear hf hp hA hs ho;refine wp_region_held_drew (S:=(fun u=>u.cell? ⟨A,0,none⟩=some (.int .i64 W)/\u.cell? ⟨A,1,none⟩=some (.slice (some ⟨g,0,none⟩) T.length c)/\u.cell? ⟨A,2,none⟩=some (.slice a2 P.length c2)/\u.cell? ⟨lb,lq+k*4+2,none⟩=some (.int .i64 cd)/\u.cell? ⟨lb,lq+k*4+3,none⟩=some (.string tx))) kr_ ?_ fun hHeld=>?_
 · exact ⟨z0,z1,z2,z3,z4⟩
 refine tq 0 hHeld ?_
 try simp only [qq]
 refine tq 1 hHeld ?_
 try simp only [qq]
 refine tq 2 hHeld ?_
 try simp only [qq]
 refine tq 3 hHeld ?_
 try simp only [qq]
 refine tq 4 hHeld ?_
 try simp only [qq]
 refine tq 5 hHeld ?_
 try simp only [qq]
 refine wpAnyH_ready (rs:=[6,11]) kr_ sm_ ?_;refine AllReadyH.cons (o:=⟨some 51,.call ⟨.value (.func 72),#[.tmp 50],#[45]⟩,9,_,_,none⟩) rfl (fun K hK=>?_) (AllReadyH.cons (o:=⟨some 13,.alloc 29,0,_,_,none⟩) rfl (fun K hK=>?_) AllReadyH.nil)
 · go_simp
   refine (c72n cd tx fm _ HF.out htx).mono ?_;rintro e v1 ⟨rfl,hcv1⟩
   go_wp2_with fail
   have kv1:Below u.heap.size u v1:=ku.drew.trans hcv1;have szv1:u.heap.size<=v1.heap.size:=hcv1.size;have a0v1:=(kv1.cell (p:=⟨A,0,none⟩) hAu).trans z0;have a1v1:=(kv1.cell (p:=⟨A,1,none⟩) hAu).trans z1;have a2v1:=(kv1.cell (p:=⟨A,2,none⟩) hAu).trans z2;have a3v1:=(kv1.cell (p:=⟨lb,lq+k*4+2,none⟩) hlu).trans z3;have a4v1:=(kv1.cell (p:=⟨lb,lq+k*4+3,none⟩) hlu).trans z4;have lv1:=kv1.size;clear hHeld;refine hK.out _ _ ⟨a0v1,a1v1,a2v1,a3v1,a4v1⟩ fun hHeld=>?_;clear hK K
   try simp only [qq]
   refine wpAnyH_ready (rs:=[7,11]) kr_ sm_ ?_;refine AllReadyH.cons (o:=⟨some 52,.call ⟨.value (.func 71),#[.tmp 45,.tmp 51],#[29,9]⟩,137,_,_,none⟩) rfl (fun K hK=>?_) (AllReadyH.cons (o:=⟨some 13,.alloc 29,0,_,_,none⟩) rfl (fun K hK=>?_) AllReadyH.nil)
   · go_simp
     refine (h25 v1 kv1).mono ?_;rintro e v2 ⟨⟨g',c',rfl,hrv2⟩,hcv2⟩
     go_wp2_with fail
     have kv2:Below u.heap.size u v2:=kv1.trans (hcv2.mono lv1);have Rv2:=hI_ hrv2;clear hrv2;have szv2:v1.heap.size<=v2.heap.size:=hcv2.size;have a0v2:=(kv2.cell (p:=⟨A,0,none⟩) hAu).trans z0;have a1v2:=(kv2.cell (p:=⟨A,1,none⟩) hAu).trans z1;have a2v2:=(kv2.cell (p:=⟨A,2,none⟩) hAu).trans z2;have a3v2:=(kv2.cell (p:=⟨lb,lq+k*4+2,none⟩) hlu).trans z3;have a4v2:=(kv2.cell (p:=⟨lb,lq+k*4+3,none⟩) hlu).trans z4;have lv2:=kv2.size;clear hHeld;refine hK.out _ _ ⟨a0v2,a1v2,a2v2,a3v2,a4v2⟩ fun hHeld=>?_;clear hK K
     try simp only [qq]
     refine tq 8 hHeld ?_
     try simp only [qq]
     refine tq 9 hHeld ?_
     try simp only [qq]
     refine tq 10 hHeld ?_
     try simp only [qq]
     refine rq 11 fun K hK=>?_;go_simp;have kv3:Below u.heap.size u (v2.alloc (.cells #[.int .i64 0,.slice none 0 0,.slice none 0 0] 29)):=(kv2.alloc lv2 _);have bB:Hid (BlkAt (v2.alloc (.cells #[.int .i64 0,.slice none 0 0,.slice none 0 0] 29)) v2.heap.size [.int .i64 0,.slice none 0 0,.slice none 0 0]):=hI_ (blk_new v2 [.int .i64 0,.slice none 0 0,.slice none 0 0] 29);have oB:Hid (OpnAt (v2.alloc (.cells #[.int .i64 0,.slice none 0 0,.slice none 0 0] 29)) v2.heap.size):=hI_ (opn_new v2 #[.int .i64 0,.slice none 0 0,.slice none 0 0] 29);have tB:Hid (OfT (v2.alloc (.cells #[.int .i64 0,.slice none 0 0,.slice none 0 0] 29)) v2.heap.size 29):=hI_ (ofT_new v2 #[.int .i64 0,.slice none 0 0,.slice none 0 0] 29);have hBl:v2.heap.size<(v2.alloc (.cells #[.int .i64 0,.slice none 0 0,.slice none 0 0] 29)).heap.size:=sm_;have kkv3:Hid (Below v2.heap.size v2 (v2.alloc (.cells #[.int .i64 0,.slice none 0 0,.slice none 0 0] 29))):=hI_ bA_;have a0v3:=(kv3.cell (p:=⟨A,0,none⟩) hAu).trans z0;have a1v3:=(kv3.cell (p:=⟨A,1,none⟩) hAu).trans z1;have a2v3:=(kv3.cell (p:=⟨A,2,none⟩) hAu).trans z2;have a3v3:=(kv3.cell (p:=⟨lb,lq+k*4+2,none⟩) hlu).trans z3;have a4v3:=(kv3.cell (p:=⟨lb,lq+k*4+3,none⟩) hlu).trans z4;have lv3:=kv3.size;clear hHeld;refine hK.out _ _ ⟨a0v3,a1v3,a2v3,a3v3,a4v3⟩ fun hHeld=>?_;clear hK K
     try simp only [qq]
     generalize (v2.alloc (.cells #[.int .i64 0,.slice none 0 0,.slice none 0 0] 29))=v3 at*;have RR:=hI_ (own_below Rv2.out kkv3.out);have HNB:Hid (∀ q,(Value.slice (some ⟨g',0,none⟩) T'.length c').ownBlock=some q->q=v2.heap.size->False):=hI_ (fun q hq e=>absurd (ofT_one (own_ofT RR.out hq) (e▸tB.out)) dc_);refine rq 12 fun K hK=>?_;refine step_store_blk rfl 29 (.tmp 13) (.tmp 53) rfl v2.heap.size 0 rfl [.int .i64 W,.slice (some ⟨g',0,none⟩) T'.length c',.slice a2 P.length c2] rfl (blk_some bB.out rfl) oB.out (by simp [Value.oneCell']) kr_ rfl ?_;clear hHeld;refine st_overB (old:=[.int .i64 0,.slice none 0 0,.slice none 0 0]) (N:=u.heap.size) rfl bB.out oB.out om_ ?_;intro E bE ZE OE hE;have kE:Below u.heap.size u E:=kv3.trans bE;have a0E:=(kE.cell (p:=⟨A,0,none⟩) hAu).trans z0;have a1E:=(kE.cell (p:=⟨A,1,none⟩) hAu).trans z1;have a2E:=(kE.cell (p:=⟨A,2,none⟩) hAu).trans z2;have a3E:=(kE.cell (p:=⟨lb,lq+k*4+2,none⟩) hlu).trans z3;have a4E:=(kE.cell (p:=⟨lb,lq+k*4+3,none⟩) hlu).trans z4;have lE:=kE.size;have RE:E.ownsRow N 9 1 (.slice (some ⟨g',0,none⟩) T'.length c') T'.length (T'.map Value.string):=own_keep' RR.out (fun q hq=>hE q (fun e=>HNB.out q hq e));refine hK.out _ _ ⟨a0E,a1E,a2E,a3E,a4E⟩ fun hHeld=>?_;clear hK K
     try simp only [qq]
     refine tq 13 hHeld ?_
     try simp only [qq]
     refine wpAnyH_done kr_ ?_ _;clear hHeld;exact hKK _ _ _ _ _ _ _ _ _ _ _ g' c' v2.heap.size E kE om_ (by have:=kE.size;have:=bE.size;omega) ZE RE
   · go_simp
     have kv2:Below u.heap.size u (v1.alloc (.cells #[.int .i64 0,.slice none 0 0,.slice none 0 0] 29)):=(kv1.alloc lv1 _);have bB:Hid (BlkAt (v1.alloc (.cells #[.int .i64 0,.slice none 0 0,.slice none 0 0] 29)) v1.heap.size [.int .i64 0,.slice none 0 0,.slice none 0 0]):=hI_ (blk_new v1 [.int .i64 0,.slice none 0 0,.slice none 0 0] 29);have oB:Hid (OpnAt (v1.alloc (.cells #[.int .i64 0,.slice none 0 0,.slice none 0 0] 29)) v1.heap.size):=hI_ (opn_new v1 #[.int .i64 0,.slice none 0 0,.slice none 0 0] 29);have tB:Hid (OfT (v1.alloc (.cells #[.int .i64 0,.slice none 0 0,.slice none 0 0] 29)) v1.heap.size 29):=hI_ (ofT_new v1 #[.int .i64 0,.slice none 0 0,.slice none 0 0] 29);have hBl:v1.heap.size<(v1.alloc (.cells #[.int .i64 0,.slice none 0 0,.slice none 0 0] 29)).heap.size:=sm_;have kkv2:Hid (Below v1.heap.size v1 (v1.alloc (.cells #[.int .i64 0,.slice none 0 0,.slice none 0 0] 29))):=hI_ bA_;have a0v2:=(kv2.cell (p:=⟨A,0,none⟩) hAu).trans z0;have a1v2:=(kv2.cell (p:=⟨A,1,none⟩) hAu).trans z1;have a2v2:=(kv2.cell (p:=⟨A,2,none⟩) hAu).trans z2;have a3v2:=(kv2.cell (p:=⟨lb,lq+k*4+2,none⟩) hlu).trans z3;have a4v2:=(kv2.cell (p:=⟨lb,lq+k*4+3,none⟩) hlu).trans z4;have lv2:=kv2.size;clear hHeld;refine hK.out _ _ ⟨a0v2,a1v2,a2v2,a3v2,a4v2⟩ fun hHeld=>?_;clear hK K
     try simp only [qq]
     generalize (v1.alloc (.cells #[.int .i64 0,.slice none 0 0,.slice none 0 0] 29))=v2 at*;refine rq 7 fun K hK=>?_;go_simp;refine (h25 v2 kv2).mono ?_;rintro e v3 ⟨⟨g',c',rfl,hrv3⟩,hcv3⟩
     go_wp2_with fail
     have kv3:Below u.heap.size u v3:=kv2.trans (hcv3.mono lv2);have Rv3:=hI_ hrv3;clear hrv3;have szv3:v2.heap.size<=v3.heap.size:=hcv3.size;have a0v3:=(kv3.cell (p:=⟨A,0,none⟩) hAu).trans z0;have a1v3:=(kv3.cell (p:=⟨A,1,none⟩) hAu).trans z1;have a2v3:=(kv3.cell (p:=⟨A,2,none⟩) hAu).trans z2;have a3v3:=(kv3.cell (p:=⟨lb,lq+k*4+2,none⟩) hlu).trans z3;have a4v3:=(kv3.cell (p:=⟨lb,lq+k*4+3,none⟩) hlu).trans z4;have lv3:=kv3.size;have bB2:=hI_ (bB.out.below hcv3 hBl);have oB2:=hI_ (oB.out.below hcv3 hBl);clear bB oB;have bB:=bB2;have oB:=oB2;have tB2:=hI_ (tB.out.below hcv3 hBl);clear tB;have tB:=tB2;have RR:=Rv3;have HNB:Hid (∀ q,(Value.slice (some ⟨g',0,none⟩) T'.length c').ownBlock=some q->q=v1.heap.size->False):=hI_ (fun q hq e=>absurd (ofT_one (own_ofT RR.out hq) (e▸tB.out)) dc_);clear hHeld;refine hK.out _ _ ⟨a0v3,a1v3,a2v3,a3v3,a4v3⟩ fun hHeld=>?_;clear hK K
     try simp only [qq]
     refine tq 8 hHeld ?_
     try simp only [qq]
     refine tq 9 hHeld ?_
     try simp only [qq]
     refine tq 10 hHeld ?_
     try simp only [qq]
     refine rq 12 fun K hK=>?_;refine step_store_blk rfl 29 (.tmp 13) (.tmp 53) rfl v1.heap.size 0 rfl [.int .i64 W,.slice (some ⟨g',0,none⟩) T'.length c',.slice a2 P.length c2] rfl (blk_some bB.out rfl) oB.out (by simp [Value.oneCell']) kr_ rfl ?_;clear hHeld;refine st_overB (old:=[.int .i64 0,.slice none 0 0,.slice none 0 0]) (N:=u.heap.size) rfl bB.out oB.out om_ ?_;intro E bE ZE OE hE;have kE:Below u.heap.size u E:=kv3.trans bE;have a0E:=(kE.cell (p:=⟨A,0,none⟩) hAu).trans z0;have a1E:=(kE.cell (p:=⟨A,1,none⟩) hAu).trans z1;have a2E:=(kE.cell (p:=⟨A,2,none⟩) hAu).trans z2;have a3E:=(kE.cell (p:=⟨lb,lq+k*4+2,none⟩) hlu).trans z3;have a4E:=(kE.cell (p:=⟨lb,lq+k*4+3,none⟩) hlu).trans z4;have lE:=kE.size;have RE:E.ownsRow N 9 1 (.slice (some ⟨g',0,none⟩) T'.length c') T'.length (T'.map Value.string):=own_keep' RR.out (fun q hq=>hE q (fun e=>HNB.out q hq e));refine hK.out _ _ ⟨a0E,a1E,a2E,a3E,a4E⟩ fun hHeld=>?_;clear hK K
     try simp only [qq]
     refine tq 13 hHeld ?_
     try simp only [qq]
     refine wpAnyH_done kr_ ?_ _;clear hHeld;exact hKK _ _ _ _ _ _ _ _ _ _ _ g' c' v1.heap.size E kE om_ (by have:=kE.size;have:=bE.size;omega) ZE RE
 · go_simp
   have kv1:Below u.heap.size u ((u.alloc (.cells #[.int .i64 0,.slice none 0 0,.slice none 0 0] 29)).drew):=(ku.alloc lu _).drew;have bB:Hid (BlkAt ((u.alloc (.cells #[.int .i64 0,.slice none 0 0,.slice none 0 0] 29)).drew) u.heap.size [.int .i64 0,.slice none 0 0,.slice none 0 0]):=hI_ (blk_new u [.int .i64 0,.slice none 0 0,.slice none 0 0] 29);have oB:Hid (OpnAt ((u.alloc (.cells #[.int .i64 0,.slice none 0 0,.slice none 0 0] 29)).drew) u.heap.size):=hI_ (opn_new u #[.int .i64 0,.slice none 0 0,.slice none 0 0] 29);have tB:Hid (OfT ((u.alloc (.cells #[.int .i64 0,.slice none 0 0,.slice none 0 0] 29)).drew) u.heap.size 29):=hI_ (ofT_new u #[.int .i64 0,.slice none 0 0,.slice none 0 0] 29);have hBl:u.heap.size<((u.alloc (.cells #[.int .i64 0,.slice none 0 0,.slice none 0 0] 29)).drew).heap.size:=sm_;have kkv1:Hid (Below u.heap.size u ((u.alloc (.cells #[.int .i64 0,.slice none 0 0,.slice none 0 0] 29)).drew)):=hI_ (bA_.drew);have a0v1:=(kv1.cell (p:=⟨A,0,none⟩) hAu).trans z0;have a1v1:=(kv1.cell (p:=⟨A,1,none⟩) hAu).trans z1;have a2v1:=(kv1.cell (p:=⟨A,2,none⟩) hAu).trans z2;have a3v1:=(kv1.cell (p:=⟨lb,lq+k*4+2,none⟩) hlu).trans z3;have a4v1:=(kv1.cell (p:=⟨lb,lq+k*4+3,none⟩) hlu).trans z4;have lv1:=kv1.size;clear hHeld;refine hK.out _ _ ⟨a0v1,a1v1,a2v1,a3v1,a4v1⟩ fun hHeld=>?_;clear hK K
   try simp only [qq]
   generalize ((u.alloc (.cells #[.int .i64 0,.slice none 0 0,.slice none 0 0] 29)).drew)=v1 at*;refine rq 6 fun K hK=>?_;go_simp;refine (c72n cd tx fm _ HF.out htx).mono ?_;rintro e v2 ⟨rfl,hcv2⟩
   go_wp2_with fail
   have kv2:Below u.heap.size u v2:=kv1.trans (hcv2.mono lv1);have szv2:v1.heap.size<=v2.heap.size:=hcv2.size;have a0v2:=(kv2.cell (p:=⟨A,0,none⟩) hAu).trans z0;have a1v2:=(kv2.cell (p:=⟨A,1,none⟩) hAu).trans z1;have a2v2:=(kv2.cell (p:=⟨A,2,none⟩) hAu).trans z2;have a3v2:=(kv2.cell (p:=⟨lb,lq+k*4+2,none⟩) hlu).trans z3;have a4v2:=(kv2.cell (p:=⟨lb,lq+k*4+3,none⟩) hlu).trans z4;have lv2:=kv2.size;clear hHeld;refine hK.out _ _ ⟨a0v2,a1v2,a2v2,a3v2,a4v2⟩ fun hHeld=>?_;clear hK K
   try simp only [qq]
   have hcc:=hcv2;refine rq 7 fun K hK=>?_;go_simp;refine (h25 v2 kv2).mono ?_;rintro e v3 ⟨⟨g',c',rfl,hrv3⟩,hcv3⟩
   go_wp2_with fail
   have kv3:Below u.heap.size u v3:=kv2.trans (hcv3.mono lv2);have Rv3:=hI_ hrv3;clear hrv3;have szv3:v2.heap.size<=v3.heap.size:=hcv3.size;have a0v3:=(kv3.cell (p:=⟨A,0,none⟩) hAu).trans z0;have a1v3:=(kv3.cell (p:=⟨A,1,none⟩) hAu).trans z1;have a2v3:=(kv3.cell (p:=⟨A,2,none⟩) hAu).trans z2;have a3v3:=(kv3.cell (p:=⟨lb,lq+k*4+2,none⟩) hlu).trans z3;have a4v3:=(kv3.cell (p:=⟨lb,lq+k*4+3,none⟩) hlu).trans z4;have lv3:=kv3.size;have bB2:=hI_ ((bB.out.below hcv2 hBl).below hcv3 (by have:=hcv2.size;omega));have oB2:=hI_ ((oB.out.below hcv2 hBl).below hcv3 (by have:=hcv2.size;omega));clear bB oB;have bB:=bB2;have oB:=oB2;have tB2:=hI_ ((tB.out.below hcv2 hBl).below hcv3 (by have:=hcv2.size;omega));clear tB;have tB:=tB2;have RR:=Rv3;have HNB:Hid (∀ q,(Value.slice (some ⟨g',0,none⟩) T'.length c').ownBlock=some q->q=u.heap.size->False):=hI_ (fun q hq e=>absurd (ofT_one (own_ofT RR.out hq) (e▸tB.out)) dc_);clear hHeld;refine hK.out _ _ ⟨a0v3,a1v3,a2v3,a3v3,a4v3⟩ fun hHeld=>?_;clear hK K
   try simp only [qq]
   refine tq 8 hHeld ?_
   try simp only [qq]
   refine tq 9 hHeld ?_
   try simp only [qq]
   refine tq 10 hHeld ?_
   try simp only [qq]
   refine rq 12 fun K hK=>?_;refine step_store_blk rfl 29 (.tmp 13) (.tmp 53) rfl u.heap.size 0 rfl [.int .i64 W,.slice (some ⟨g',0,none⟩) T'.length c',.slice a2 P.length c2] rfl (blk_some bB.out rfl) oB.out (by simp [Value.oneCell']) kr_ rfl ?_;clear hHeld;refine st_overB (old:=[.int .i64 0,.slice none 0 0,.slice none 0 0]) (N:=u.heap.size) rfl bB.out oB.out om_ ?_;intro E bE ZE OE hE;have kE:Below u.heap.size u E:=kv3.trans bE;have a0E:=(kE.cell (p:=⟨A,0,none⟩) hAu).trans z0;have a1E:=(kE.cell (p:=⟨A,1,none⟩) hAu).trans z1;have a2E:=(kE.cell (p:=⟨A,2,none⟩) hAu).trans z2;have a3E:=(kE.cell (p:=⟨lb,lq+k*4+2,none⟩) hlu).trans z3;have a4E:=(kE.cell (p:=⟨lb,lq+k*4+3,none⟩) hlu).trans z4;have lE:=kE.size;have RE:E.ownsRow N 9 1 (.slice (some ⟨g',0,none⟩) T'.length c') T'.length (T'.map Value.string):=own_keep' RR.out (fun q hq=>hE q (fun e=>HNB.out q hq e));refine hK.out _ _ ⟨a0E,a1E,a2E,a3E,a4E⟩ fun hHeld=>?_;clear hK K
   try simp only [qq]
   refine tq 13 hHeld ?_
   try simp only [qq]
   refine wpAnyH_done kr_ ?_ _;clear hHeld;exact hKK _ _ _ _ _ _ _ _ _ _ _ g' c' u.heap.size E kE om_ (by have:=kE.size;have:=bE.size;omega) ZE RE
theorem r14 {K:Act->World->Prop} {Q:Exit->Act->World->Prop} {d0 d1 d2 d3 d4 d5 d6 d8 d9 d11 d12 d13 d14 d15 d16 d17 d18 d19 d20 d21 d22 d23 d24 d25 d26 d27 d28 d29 d30 d31 d32 d33 d34 d35 d36 d37 d38 d39 d40 d41 d42 d43 d44 d45 d46 d47 d48 d49 d50 d51 d52 d53 d54 d55 d56 d57 d58 d59 d60 d61 d62 d63 d64 d65 d66 d67 d68 d69 d70 d71 d72 d73 d74 d75 d76 d77 d78 d79 d80 d81 d82 d83 d84 d85 d86 d87 d88 d89 d90 d91 d92 d93 d94 d95 d96 d97 d98 d99 d100 d101 d102 d103 d104 d105 d106 d107 d108 d109 d110 d111 d112 d113 d114 d115 d116 d117:Value} {N A lb g c:Nat} {W cd:Int} {tx fm:ByteArray} {T T':List ByteArray} {b':Bool} {P:List R3} {a2:Option Addr} {c2:Nat} {u:World}  (BA:BlkAt u A [.int .i64 W,.slice (some ⟨g,0,none⟩) T.length c,.slice a2 P.length c2]) (hAu:A<u.heap.size) (hlu:lb<u.heap.size) (z3:u.cell? ⟨lb,0,none⟩=some (.int .i64 cd)) (z4:u.cell? ⟨lb,1,none⟩=some (.string tx)) (hf:fmR cd tx=fm) (htx:tx.size<=1048700) (hfm:fm.size<=1048700) (hA:AscT W T) (hl:T.length<=1000000) (hs:∀ i,(T.getD i ByteArray.empty).size<=1048700) (hp:putT W fm T=(T',b')) (ho:u.ownsRow N 9 1 (.slice (some ⟨g,0,none⟩) T.length c) T.length (T.map Value.string)) (hN:N<=u.heap.size)
 (hQ:∀ (d:Nat) v c (a:Act) w,Q (.panic c) (a.put (some d) v) w->Q (.panic c) a w) (hKK:∀ (y60 y61 y62 y63 y64 y65 y66:Value) (g' c' B:Nat) (E:World),Below u.heap.size u E->u.heap.size<=B->B<E.heap.size->BlkAt E B [.int .i64 W,.slice (some ⟨g',0,none⟩) T'.length c',.slice a2 P.length c2]->E.ownsRow N 9 1 (.slice (some ⟨g',0,none⟩) T'.length c') T'.length (T'.map Value.string)->K { tmps:=#[d0,d1,d2,d3,d4,d5,d6,.pointer (some ⟨lb,0,none⟩),d8,d9,.pointer (some ⟨A,0,none⟩),d11,d12,d13,d14,.pointer (some ⟨B,0,none⟩),.bool b',d17,d18,d19,d20,d21,d22,d23,d24,d25,d26,d27,d28,d29,d30,d31,d32,d33,d34,d35,d36,d37,d38,d39,d40,d41,d42,d43,d44,d45,d46,d47,d48,d49,d50,d51,d52,d53,d54,d55,d56,d57,d58,d59,y60,y61,y62,y63,y64,y65,y66,d67,d68,d69,d70,d71,d72,d73,d74,d75,d76,d77,d78,d79,d80,d81,d82,d83,d84,d85,d86,d87,d88,d89,d90,d91,d92,d93,d94,d95,d96,d97,d98,d99,d100,d101,d102,d103,d104,d105,d106,d107,d108,d109,d110,d111,d112,d113,d114,d115,d116,d117],defers:=[] } E):
 Code.wp prog (Code.region 14 #[⟨some 61,.load 29 (.tmp 10),29, "l5_store.go:187",#[],none⟩,⟨some 62,.load 45 (.tmp 7),45, "l5_store.go:187",#[],none⟩,⟨some 63,.call ⟨.value (.func 72),#[.tmp 62],#[45]⟩,9, "l5_store.go:187",#[⟨1,.data⟩],none⟩,⟨some 64,.call ⟨.value (.func 71),#[.tmp 61,.tmp 63],#[29,9]⟩,137, "l5_store.go:187",#[⟨0,.data⟩,⟨2,.data⟩,⟨2,.chain⟩],none⟩,⟨some 60,.move (.tmp 64),137, "l5_store.go:187",#[⟨3,.data⟩],none⟩,⟨some 65,.extract (.tmp 60) 0,29, "l5_store.go:187",#[⟨4,.data⟩],none⟩,⟨some 66,.extract (.tmp 60) 1,4, "l5_store.go:187",#[⟨4,.data⟩,⟨8,.gcOnly .lateStores⟩],none⟩,⟨some 15,.alloc 29,0, "l5_store.go:187",#[],none⟩,⟨none,.store 29 (.tmp 15) (.tmp 65),0, "l5_store.go:187",#[⟨7,.data⟩,⟨5,.data⟩,⟨3,.chain⟩,⟨0,.phase⟩,⟨1,.phase⟩,⟨2,.phase⟩,⟨3,.phase⟩,⟨4,.phase⟩,⟨5,.phase⟩,⟨6,.textOnly .lateStores⟩,⟨7,.phase⟩],none⟩,⟨some 16,.assign (.tmp 66),4, "l5_store.go:187",#[⟨6,.data⟩,⟨8,.chain⟩,⟨0,.phase⟩,⟨1,.phase⟩,⟨2,.phase⟩,⟨3,.phase⟩,⟨4,.phase⟩,⟨5,.phase⟩,⟨6,.phase⟩,⟨7,.phase⟩,⟨8,.phase⟩],none⟩] true) (Exit.then K Q) { tmps:=#[d0,d1,d2,d3,d4,d5,d6,.pointer (some ⟨lb,0,none⟩),d8,d9,.pointer (some ⟨A,0,none⟩),d11,d12,d13,d14,d15,d16,d17,d18,d19,d20,d21,d22,d23,d24,d25,d26,d27,d28,d29,d30,d31,d32,d33,d34,d35,d36,d37,d38,d39,d40,d41,d42,d43,d44,d45,d46,d47,d48,d49,d50,d51,d52,d53,d54,d55,d56,d57,d58,d59,d60,d61,d62,d63,d64,d65,d66,d67,d68,d69,d70,d71,d72,d73,d74,d75,d76,d77,d78,d79,d80,d81,d82,d83,d84,d85,d86,d87,d88,d89,d90,d91,d92,d93,d94,d95,d96,d97,d98,d99,d100,d101,d102,d103,d104,d105,d106,d107,d108,d109,d110,d111,d112,d113,d114,d115,d116,d117],defers:=[] } u:=by
 have z0:=BA 0 _ rfl;have z1:=BA 1 _ rfl;have z2:=BA 2 _ rfl;have HF:=hI_ hf;have ku:Below u.heap.size u u:=Below.refl _ _;have lu:u.heap.size<=u.heap.size:=Nat.le_refl _;have h25:∀ v,Below u.heap.size u v->Calls prog 71 #[.agg #[.int .i64 W,.slice (some ⟨g,0,none⟩) T.length c,.slice a2 P.length c2],.string fm] v fun e w'=>(∃ g' c',e=.returned (.tuple #[.agg #[.int .i64 W,.slice (some ⟨g',0,none⟩) T'.length c',.slice a2 P.length c2],.bool b'])/\w'.ownsRow N 9 1 (.slice (some ⟨g',0,none⟩) T'.length c') T'.length (T'.map Value.string))/\Below v.heap.size v w':=fun v hv=>by
  have h:=c71 W T fm N g c P.length c2 a2 v hA hl hs hfm (own_below ho hv) (Nat.le_trans hN hv.size);rw [hp] at h;exact h
 clear hf hp hA hs ho;refine wp_region_held_drew (S:=(fun u=>u.cell? ⟨A,0,none⟩=some (.int .i64 W)/\u.cell? ⟨A,1,none⟩=some (.slice (some ⟨g,0,none⟩) T.length c)/\u.cell? ⟨A,2,none⟩=some (.slice a2 P.length c2)/\u.cell? ⟨lb,0,none⟩=some (.int .i64 cd)/\u.cell? ⟨lb,1,none⟩=some (.string tx))) kr_ ?_ fun hHeld=>?_
 · exact ⟨z0,z1,z2,z3,z4⟩
 refine tq 0 hHeld ?_
 try simp only [qq]
 refine tq 1 hHeld ?_
 try simp only [qq]
 refine wpAnyH_ready (rs:=[2,7]) kr_ sm_ ?_;refine AllReadyH.cons (o:=⟨some 63,.call ⟨.value (.func 72),#[.tmp 62],#[45]⟩,9,_,_,none⟩) rfl (fun K hK=>?_) (AllReadyH.cons (o:=⟨some 15,.alloc 29,0,_,_,none⟩) rfl (fun K hK=>?_) AllReadyH.nil)
 · go_simp
   refine (c72n cd tx fm _ HF.out htx).mono ?_;rintro e v1 ⟨rfl,hcv1⟩
   go_wp2_with fail
   have kv1:Below u.heap.size u v1:=ku.drew.trans hcv1;have szv1:u.heap.size<=v1.heap.size:=hcv1.size;have a0v1:=(kv1.cell (p:=⟨A,0,none⟩) hAu).trans z0;have a1v1:=(kv1.cell (p:=⟨A,1,none⟩) hAu).trans z1;have a2v1:=(kv1.cell (p:=⟨A,2,none⟩) hAu).trans z2;have a3v1:=(kv1.cell (p:=⟨lb,0,none⟩) hlu).trans z3;have a4v1:=(kv1.cell (p:=⟨lb,1,none⟩) hlu).trans z4;have lv1:=kv1.size;clear hHeld;refine hK.out _ _ ⟨a0v1,a1v1,a2v1,a3v1,a4v1⟩ fun hHeld=>?_;clear hK K
   try simp only [qq]
   refine wpAnyH_ready (rs:=[3,7]) kr_ sm_ ?_;refine AllReadyH.cons (o:=⟨some 64,.call ⟨.value (.func 71),#[.tmp 61,.tmp 63],#[29,9]⟩,137,_,_,none⟩) rfl (fun K hK=>?_) (AllReadyH.cons (o:=⟨some 15,.alloc 29,0,_,_,none⟩) rfl (fun K hK=>?_) AllReadyH.nil)
   · go_simp
     refine (h25 v1 kv1).mono ?_;rintro e v2 ⟨⟨g',c',rfl,hrv2⟩,hcv2⟩
     go_wp2_with fail
     have kv2:Below u.heap.size u v2:=kv1.trans (hcv2.mono lv1);have Rv2:=hI_ hrv2;clear hrv2;have szv2:v1.heap.size<=v2.heap.size:=hcv2.size;have a0v2:=(kv2.cell (p:=⟨A,0,none⟩) hAu).trans z0;have a1v2:=(kv2.cell (p:=⟨A,1,none⟩) hAu).trans z1;have a2v2:=(kv2.cell (p:=⟨A,2,none⟩) hAu).trans z2;have a3v2:=(kv2.cell (p:=⟨lb,0,none⟩) hlu).trans z3;have a4v2:=(kv2.cell (p:=⟨lb,1,none⟩) hlu).trans z4;have lv2:=kv2.size;clear hHeld;refine hK.out _ _ ⟨a0v2,a1v2,a2v2,a3v2,a4v2⟩ fun hHeld=>?_;clear hK K
     try simp only [qq]
     refine tq 4 hHeld ?_
     try simp only [qq]
     refine tq 5 hHeld ?_
     try simp only [qq]
     refine tq 6 hHeld ?_
     try simp only [qq]
     refine rq 7 fun K hK=>?_;go_simp;have kv3:Below u.heap.size u (v2.alloc (.cells #[.int .i64 0,.slice none 0 0,.slice none 0 0] 29)):=(kv2.alloc lv2 _);have bB:Hid (BlkAt (v2.alloc (.cells #[.int .i64 0,.slice none 0 0,.slice none 0 0] 29)) v2.heap.size [.int .i64 0,.slice none 0 0,.slice none 0 0]):=hI_ (blk_new v2 [.int .i64 0,.slice none 0 0,.slice none 0 0] 29);have oB:Hid (OpnAt (v2.alloc (.cells #[.int .i64 0,.slice none 0 0,.slice none 0 0] 29)) v2.heap.size):=hI_ (opn_new v2 #[.int .i64 0,.slice none 0 0,.slice none 0 0] 29);have tB:Hid (OfT (v2.alloc (.cells #[.int .i64 0,.slice none 0 0,.slice none 0 0] 29)) v2.heap.size 29):=hI_ (ofT_new v2 #[.int .i64 0,.slice none 0 0,.slice none 0 0] 29);have hBl:v2.heap.size<(v2.alloc (.cells #[.int .i64 0,.slice none 0 0,.slice none 0 0] 29)).heap.size:=sm_;have kkv3:Hid (Below v2.heap.size v2 (v2.alloc (.cells #[.int .i64 0,.slice none 0 0,.slice none 0 0] 29))):=hI_ bA_;have a0v3:=(kv3.cell (p:=⟨A,0,none⟩) hAu).trans z0;have a1v3:=(kv3.cell (p:=⟨A,1,none⟩) hAu).trans z1;have a2v3:=(kv3.cell (p:=⟨A,2,none⟩) hAu).trans z2;have a3v3:=(kv3.cell (p:=⟨lb,0,none⟩) hlu).trans z3;have a4v3:=(kv3.cell (p:=⟨lb,1,none⟩) hlu).trans z4;have lv3:=kv3.size;clear hHeld;refine hK.out _ _ ⟨a0v3,a1v3,a2v3,a3v3,a4v3⟩ fun hHeld=>?_;clear hK K
     try simp only [qq]
     generalize (v2.alloc (.cells #[.int .i64 0,.slice none 0 0,.slice none 0 0] 29))=v3 at*;have RR:=hI_ (own_below Rv2.out kkv3.out);have HNB:Hid (∀ q,(Value.slice (some ⟨g',0,none⟩) T'.length c').ownBlock=some q->q=v2.heap.size->False):=hI_ (fun q hq e=>absurd (ofT_one (own_ofT RR.out hq) (e▸tB.out)) dc_);refine rq 8 fun K hK=>?_;refine step_store_blk rfl 29 (.tmp 15) (.tmp 65) rfl v2.heap.size 0 rfl [.int .i64 W,.slice (some ⟨g',0,none⟩) T'.length c',.slice a2 P.length c2] rfl (blk_some bB.out rfl) oB.out (by simp [Value.oneCell']) kr_ rfl ?_;clear hHeld;refine st_overB (old:=[.int .i64 0,.slice none 0 0,.slice none 0 0]) (N:=u.heap.size) rfl bB.out oB.out om_ ?_;intro E bE ZE OE hE;have kE:Below u.heap.size u E:=kv3.trans bE;have a0E:=(kE.cell (p:=⟨A,0,none⟩) hAu).trans z0;have a1E:=(kE.cell (p:=⟨A,1,none⟩) hAu).trans z1;have a2E:=(kE.cell (p:=⟨A,2,none⟩) hAu).trans z2;have a3E:=(kE.cell (p:=⟨lb,0,none⟩) hlu).trans z3;have a4E:=(kE.cell (p:=⟨lb,1,none⟩) hlu).trans z4;have lE:=kE.size;have RE:E.ownsRow N 9 1 (.slice (some ⟨g',0,none⟩) T'.length c') T'.length (T'.map Value.string):=own_keep' RR.out (fun q hq=>hE q (fun e=>HNB.out q hq e));refine hK.out _ _ ⟨a0E,a1E,a2E,a3E,a4E⟩ fun hHeld=>?_;clear hK K
     try simp only [qq]
     refine tq 9 hHeld ?_
     try simp only [qq]
     refine wpAnyH_done kr_ ?_ _;clear hHeld;exact hKK _ _ _ _ _ _ _ g' c' v2.heap.size E kE om_ (by have:=kE.size;have:=bE.size;omega) ZE RE
   · go_simp
     have kv2:Below u.heap.size u (v1.alloc (.cells #[.int .i64 0,.slice none 0 0,.slice none 0 0] 29)):=(kv1.alloc lv1 _);have bB:Hid (BlkAt (v1.alloc (.cells #[.int .i64 0,.slice none 0 0,.slice none 0 0] 29)) v1.heap.size [.int .i64 0,.slice none 0 0,.slice none 0 0]):=hI_ (blk_new v1 [.int .i64 0,.slice none 0 0,.slice none 0 0] 29);have oB:Hid (OpnAt (v1.alloc (.cells #[.int .i64 0,.slice none 0 0,.slice none 0 0] 29)) v1.heap.size):=hI_ (opn_new v1 #[.int .i64 0,.slice none 0 0,.slice none 0 0] 29);have tB:Hid (OfT (v1.alloc (.cells #[.int .i64 0,.slice none 0 0,.slice none 0 0] 29)) v1.heap.size 29):=hI_ (ofT_new v1 #[.int .i64 0,.slice none 0 0,.slice none 0 0] 29);have hBl:v1.heap.size<(v1.alloc (.cells #[.int .i64 0,.slice none 0 0,.slice none 0 0] 29)).heap.size:=sm_;have kkv2:Hid (Below v1.heap.size v1 (v1.alloc (.cells #[.int .i64 0,.slice none 0 0,.slice none 0 0] 29))):=hI_ bA_;have a0v2:=(kv2.cell (p:=⟨A,0,none⟩) hAu).trans z0;have a1v2:=(kv2.cell (p:=⟨A,1,none⟩) hAu).trans z1;have a2v2:=(kv2.cell (p:=⟨A,2,none⟩) hAu).trans z2;have a3v2:=(kv2.cell (p:=⟨lb,0,none⟩) hlu).trans z3;have a4v2:=(kv2.cell (p:=⟨lb,1,none⟩) hlu).trans z4;have lv2:=kv2.size;clear hHeld;refine hK.out _ _ ⟨a0v2,a1v2,a2v2,a3v2,a4v2⟩ fun hHeld=>?_;clear hK K
     try simp only [qq]
     generalize (v1.alloc (.cells #[.int .i64 0,.slice none 0 0,.slice none 0 0] 29))=v2 at*;refine rq 3 fun K hK=>?_;go_simp;refine (h25 v2 kv2).mono ?_;rintro e v3 ⟨⟨g',c',rfl,hrv3⟩,hcv3⟩
     go_wp2_with fail
     have kv3:Below u.heap.size u v3:=kv2.trans (hcv3.mono lv2);have Rv3:=hI_ hrv3;clear hrv3;have szv3:v2.heap.size<=v3.heap.size:=hcv3.size;have a0v3:=(kv3.cell (p:=⟨A,0,none⟩) hAu).trans z0;have a1v3:=(kv3.cell (p:=⟨A,1,none⟩) hAu).trans z1;have a2v3:=(kv3.cell (p:=⟨A,2,none⟩) hAu).trans z2;have a3v3:=(kv3.cell (p:=⟨lb,0,none⟩) hlu).trans z3;have a4v3:=(kv3.cell (p:=⟨lb,1,none⟩) hlu).trans z4;have lv3:=kv3.size;have bB2:=hI_ (bB.out.below hcv3 hBl);have oB2:=hI_ (oB.out.below hcv3 hBl);clear bB oB;have bB:=bB2;have oB:=oB2;have tB2:=hI_ (tB.out.below hcv3 hBl);clear tB;have tB:=tB2;have RR:=Rv3;have HNB:Hid (∀ q,(Value.slice (some ⟨g',0,none⟩) T'.length c').ownBlock=some q->q=v1.heap.size->False):=hI_ (fun q hq e=>absurd (ofT_one (own_ofT RR.out hq) (e▸tB.out)) dc_);clear hHeld;refine hK.out _ _ ⟨a0v3,a1v3,a2v3,a3v3,a4v3⟩ fun hHeld=>?_;clear hK K
     try simp only [qq]
     refine tq 4 hHeld ?_
     try simp only [qq]
     refine tq 5 hHeld ?_
     try simp only [qq]
     refine tq 6 hHeld ?_
     try simp only [qq]
     refine rq 8 fun K hK=>?_;refine step_store_blk rfl 29 (.tmp 15) (.tmp 65) rfl v1.heap.size 0 rfl [.int .i64 W,.slice (some ⟨g',0,none⟩) T'.length c',.slice a2 P.length c2] rfl (blk_some bB.out rfl) oB.out (by simp [Value.oneCell']) kr_ rfl ?_;clear hHeld;refine st_overB (old:=[.int .i64 0,.slice none 0 0,.slice none 0 0]) (N:=u.heap.size) rfl bB.out oB.out om_ ?_;intro E bE ZE OE hE;have kE:Below u.heap.size u E:=kv3.trans bE;have a0E:=(kE.cell (p:=⟨A,0,none⟩) hAu).trans z0;have a1E:=(kE.cell (p:=⟨A,1,none⟩) hAu).trans z1;have a2E:=(kE.cell (p:=⟨A,2,none⟩) hAu).trans z2;have a3E:=(kE.cell (p:=⟨lb,0,none⟩) hlu).trans z3;have a4E:=(kE.cell (p:=⟨lb,1,none⟩) hlu).trans z4;have lE:=kE.size;have RE:E.ownsRow N 9 1 (.slice (some ⟨g',0,none⟩) T'.length c') T'.length (T'.map Value.string):=own_keep' RR.out (fun q hq=>hE q (fun e=>HNB.out q hq e));refine hK.out _ _ ⟨a0E,a1E,a2E,a3E,a4E⟩ fun hHeld=>?_;clear hK K
     try simp only [qq]
     refine tq 9 hHeld ?_
     try simp only [qq]
     refine wpAnyH_done kr_ ?_ _;clear hHeld;exact hKK _ _ _ _ _ _ _ g' c' v1.heap.size E kE om_ (by have:=kE.size;have:=bE.size;omega) ZE RE
 · go_simp
   have kv1:Below u.heap.size u ((u.alloc (.cells #[.int .i64 0,.slice none 0 0,.slice none 0 0] 29)).drew):=(ku.alloc lu _).drew;have bB:Hid (BlkAt ((u.alloc (.cells #[.int .i64 0,.slice none 0 0,.slice none 0 0] 29)).drew) u.heap.size [.int .i64 0,.slice none 0 0,.slice none 0 0]):=hI_ (blk_new u [.int .i64 0,.slice none 0 0,.slice none 0 0] 29);have oB:Hid (OpnAt ((u.alloc (.cells #[.int .i64 0,.slice none 0 0,.slice none 0 0] 29)).drew) u.heap.size):=hI_ (opn_new u #[.int .i64 0,.slice none 0 0,.slice none 0 0] 29);have tB:Hid (OfT ((u.alloc (.cells #[.int .i64 0,.slice none 0 0,.slice none 0 0] 29)).drew) u.heap.size 29):=hI_ (ofT_new u #[.int .i64 0,.slice none 0 0,.slice none 0 0] 29);have hBl:u.heap.size<((u.alloc (.cells #[.int .i64 0,.slice none 0 0,.slice none 0 0] 29)).drew).heap.size:=sm_;have kkv1:Hid (Below u.heap.size u ((u.alloc (.cells #[.int .i64 0,.slice none 0 0,.slice none 0 0] 29)).drew)):=hI_ (bA_.drew);have a0v1:=(kv1.cell (p:=⟨A,0,none⟩) hAu).trans z0;have a1v1:=(kv1.cell (p:=⟨A,1,none⟩) hAu).trans z1;have a2v1:=(kv1.cell (p:=⟨A,2,none⟩) hAu).trans z2;have a3v1:=(kv1.cell (p:=⟨lb,0,none⟩) hlu).trans z3;have a4v1:=(kv1.cell (p:=⟨lb,1,none⟩) hlu).trans z4;have lv1:=kv1.size;clear hHeld;refine hK.out _ _ ⟨a0v1,a1v1,a2v1,a3v1,a4v1⟩ fun hHeld=>?_;clear hK K
   try simp only [qq]
   generalize ((u.alloc (.cells #[.int .i64 0,.slice none 0 0,.slice none 0 0] 29)).drew)=v1 at*;refine rq 2 fun K hK=>?_;go_simp;refine (c72n cd tx fm _ HF.out htx).mono ?_;rintro e v2 ⟨rfl,hcv2⟩
   go_wp2_with fail
   have kv2:Below u.heap.size u v2:=kv1.trans (hcv2.mono lv1);have szv2:v1.heap.size<=v2.heap.size:=hcv2.size;have a0v2:=(kv2.cell (p:=⟨A,0,none⟩) hAu).trans z0;have a1v2:=(kv2.cell (p:=⟨A,1,none⟩) hAu).trans z1;have a2v2:=(kv2.cell (p:=⟨A,2,none⟩) hAu).trans z2;have a3v2:=(kv2.cell (p:=⟨lb,0,none⟩) hlu).trans z3;have a4v2:=(kv2.cell (p:=⟨lb,1,none⟩) hlu).trans z4;have lv2:=kv2.size;clear hHeld;refine hK.out _ _ ⟨a0v2,a1v2,a2v2,a3v2,a4v2⟩ fun hHeld=>?_;clear hK K
   try simp only [qq]
   have hcc:=hcv2;refine rq 3 fun K hK=>?_;go_simp;refine (h25 v2 kv2).mono ?_;rintro e v3 ⟨⟨g',c',rfl,hrv3⟩,hcv3⟩
   go_wp2_with fail
   have kv3:Below u.heap.size u v3:=kv2.trans (hcv3.mono lv2);have Rv3:=hI_ hrv3;clear hrv3;have szv3:v2.heap.size<=v3.heap.size:=hcv3.size;have a0v3:=(kv3.cell (p:=⟨A,0,none⟩) hAu).trans z0;have a1v3:=(kv3.cell (p:=⟨A,1,none⟩) hAu).trans z1;have a2v3:=(kv3.cell (p:=⟨A,2,none⟩) hAu).trans z2;have a3v3:=(kv3.cell (p:=⟨lb,0,none⟩) hlu).trans z3;have a4v3:=(kv3.cell (p:=⟨lb,1,none⟩) hlu).trans z4;have lv3:=kv3.size;have bB2:=hI_ ((bB.out.below hcv2 hBl).below hcv3 (by have:=hcv2.size;omega));have oB2:=hI_ ((oB.out.below hcv2 hBl).below hcv3 (by have:=hcv2.size;omega));clear bB oB;have bB:=bB2;have oB:=oB2;have tB2:=hI_ ((tB.out.below hcv2 hBl).below hcv3 (by have:=hcv2.size;omega));clear tB;have tB:=tB2;have RR:=Rv3;have HNB:Hid (∀ q,(Value.slice (some ⟨g',0,none⟩) T'.length c').ownBlock=some q->q=u.heap.size->False):=hI_ (fun q hq e=>absurd (ofT_one (own_ofT RR.out hq) (e▸tB.out)) dc_);clear hHeld;refine hK.out _ _ ⟨a0v3,a1v3,a2v3,a3v3,a4v3⟩ fun hHeld=>?_;clear hK K
   try simp only [qq]
   refine tq 4 hHeld ?_
   try simp only [qq]
   refine tq 5 hHeld ?_
   try simp only [qq]
   refine tq 6 hHeld ?_
   try simp only [qq]
   refine rq 8 fun K hK=>?_;refine step_store_blk rfl 29 (.tmp 15) (.tmp 65) rfl u.heap.size 0 rfl [.int .i64 W,.slice (some ⟨g',0,none⟩) T'.length c',.slice a2 P.length c2] rfl (blk_some bB.out rfl) oB.out (by simp [Value.oneCell']) kr_ rfl ?_;clear hHeld;refine st_overB (old:=[.int .i64 0,.slice none 0 0,.slice none 0 0]) (N:=u.heap.size) rfl bB.out oB.out om_ ?_;intro E bE ZE OE hE;have kE:Below u.heap.size u E:=kv3.trans bE;have a0E:=(kE.cell (p:=⟨A,0,none⟩) hAu).trans z0;have a1E:=(kE.cell (p:=⟨A,1,none⟩) hAu).trans z1;have a2E:=(kE.cell (p:=⟨A,2,none⟩) hAu).trans z2;have a3E:=(kE.cell (p:=⟨lb,0,none⟩) hlu).trans z3;have a4E:=(kE.cell (p:=⟨lb,1,none⟩) hlu).trans z4;have lE:=kE.size;have RE:E.ownsRow N 9 1 (.slice (some ⟨g',0,none⟩) T'.length c') T'.length (T'.map Value.string):=own_keep' RR.out (fun q hq=>hE q (fun e=>HNB.out q hq e));refine hK.out _ _ ⟨a0E,a1E,a2E,a3E,a4E⟩ fun hHeld=>?_;clear hK K
   try simp only [qq]
   refine tq 9 hHeld ?_
   try simp only [qq]
   refine wpAnyH_done kr_ ?_ _;clear hHeld;exact hKK _ _ _ _ _ _ _ g' c' u.heap.size E kE om_ (by have:=kE.size;have:=bE.size;omega) ZE RE
end Go.Proofs.YtlckdgjfniglfaaGreatDoor
