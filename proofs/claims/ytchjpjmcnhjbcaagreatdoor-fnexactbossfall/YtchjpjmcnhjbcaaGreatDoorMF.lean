import Derived.Test.YtchjpjmcnhjbcaaGreatDooreR9
set_option linter.unusedVariables false
set_option linter.unusedSimpArgs false
set_option maxHeartbeats 8000000
set_option maxRecDepth 100000
namespace Go.Proofs.YtchjpjmcnhjbcaaGreatDoor
open Proofs.Tryz Go.RowKit Go.Maps
variable {V u w:World} {A B N c c2 d g k lb tc:Nat} {T ts:LB} {W cd:Int} {t tx x:BY} {vs xs:List Value} {K:Act->World->Prop} {d0 d1 d100 d101 d102 d103 d104 d105 d106 d107 d108 d109 d11 d110 d111 d112 d113 d114 d115 d116 d117 d12 d13 d14 d15 d16 d17 d18 d19 d20 d21 d22 d23 d24 d25 d26 d27 d28 d29 d3 d30 d31 d32 d33 d34 d35 d36 d37 d38 d39 d4 d40 d41 d42 d43 d44 d45 d46 d47 d48 d49 d5 d50 d51 d52 d53 d54 d55 d56 d57 d58 d59 d6 d60 d61 d62 d63 d64 d65 d66 d67 d68 d69 d70 d71 d72 d73 d74 d75 d76 d77 d78 d79 d8 d80 d81 d82 d83 d84 d85 d86 d87 d88 d89 d9 d90 d91 d92 d93 d94 d95 d96 d97:Value} {P:List R3} {a2:OA} {Q:Exit->Act->World->Prop} {b':Bool}
theorem YF (h:w.ownsRow N 9 1 (.slice (some ⟨g,0,none⟩) ts.length tc) ts.length (ts.map Value.string)):g<w.heap.size/\ts.length<=tc/\tc<=maxLen/\∀ k,k<ts.length->w.cell? ⟨g,k,none⟩=some (.string (ts.getD k ByteArray.empty)):=by
 have b:=h;rcases h.2 with ⟨hv,_⟩ | ⟨g',cap,cur,hv,hg,c,h1,h2,_⟩
 · cases hv
 · simp only [Vq,Ou,Addr.mk.injEq,and_true] at hv;obtain ⟨rfl,_,rfl⟩:=hv;refine ⟨(r_.1 c).1,h1,h2,fun k a=>?_⟩;rw [b.cellAt k O0];rw [Yr,Z8 a];simp only [xw,List.getD,Z8 a,qf]
theorem OG (a b:BY):Op.bytesLess a.toList b.toList=Zq a b:=by
 rw [BJ];simp [Zq,ByteArray.toList_eq]
theorem ZV (ts:LB) (k:Nat) (a:k<=ts.length) (h1:∀ j,j<k->Zq (Z5 (ts.getD j ByteArray.empty) W) (Z5 t W)=true) (h2:k<ts.length->Zq (Z5 t W) (Z5 (ts.getD k ByteArray.empty) W)=true):Xl W t ts=ts.take k++[t]++ts.drop k:=by
 induction ts generalizing k with
 | nil=>
  obtain rfl:k=0:=by simpa using a
  rfl
 | cons y r ih=>
  cases k with
  | zero=>
   have:=h2 X4;have e:Zq (Z5 t W) (Z5 y W)=true:=this;unfold Xl;rw [X7 e];rfl
  | succ k=>
   have e:Zq (Z5 y W) (Z5 t W)=true:=h1 0 O0;have c:¬ Zq (Z5 t W) (Z5 y W)=true:=fun h=>by
    have:=Az e h;rw [Wl] at this;cases this
   unfold Xl;rw [I7 c];have:=ih k (by simpa using a) (fun j b=>h1 (j+1) O0) (fun b=>h2 (by simpa using b));rw [this];rfl
theorem zu {p:Nat} (a:p<ts.length):ts.getD p ByteArray.empty∈ts:=by
 have:ts.getD p ByteArray.empty=ts[p]:=by simp [List.getD,Z8 a]
 rw [this];exact Bj a
theorem OM (hA:Wh W ts) (a:k<ts.length) (he:Z5 (ts.getD k ByteArray.empty) W=Z5 t W):Eb W t ts=(ts,decide (ts.getD k ByteArray.empty=t)):=by
 unfold Eb;rw [NG hA (zu a) he]
theorem vJ (hA:Wh W ts) (f:k<=ts.length) (h1:∀ j,j<k->Zq (Z5 (ts.getD j ByteArray.empty) W) (Z5 t W)=true) (h2:k<ts.length->Zq (Z5 (ts.getD k ByteArray.empty) W) (Z5 t W)=false/\Z5 (ts.getD k ByteArray.empty) W≠Z5 t W):Eb W t ts=(ts.take k++[t]++ts.drop k,true):=by
 have g:∀ i j,i<j->j<ts.length->Zq (Z5 (ts.getD i ByteArray.empty) W) (Z5 (ts.getD j ByteArray.empty) W)=true:=fun i j b a=>by
  have:=lT.1 hA i j (by simpa using Nat.lt_trans b a) (by simpa using a) b;simp only [iD,gT] at this;simpa only [List.getD,Z8 (Nat.lt_trans b a),Z8 a,qf] using this
 have d:∀ j,j<ts.length->Z5 (ts.getD j ByteArray.empty) W≠Z5 t W:=fun j a e=>by
  rcases Qv j k with h | rfl | h
  · have:=h1 j h;rw [e,Wl] at this;cases this
  · exact (h2 a).2 e
  · have:=g k j h a;rw [e,(h2 O0).1] at this;cases this
 have hf:ts.find? (fun y=>decide (Z5 y W=Z5 t W))=none:=by
  rw [Pz];intro y c;obtain ⟨j,a,rfl⟩:=Zd c;have:=d j a;simp only [List.getD,Z8 a,qf] at this;simpa using this
 unfold Eb;rw [hf];simp only [];rw [ZV ts k f h1 (fun h=>((ZK (h2 h).2).resolve_left (by rw [(h2 h).1];exact Xk)))]
theorem ny (a b:BY):(a.toList==b.toList)=decide (a=b):=by
 by_cases h:a=b
 · subst h;simp
 · have:a.toList≠b.toList:=fun e=>h (by
    rw [ByteArray.toList_eq,ByteArray.toList_eq] at e;cases a;cases b;simpa using e)
   simp [this,h]
theorem YO {old:List Value} {P:World->Prop} (hl:old.length=vs.length) (hB:D5 u B old) (b:X6 u B) (c:N<=B) (h:∀ u',Below N u u'->D5 u' B vs->X6 u' B->(∀ k,k≠B->u'.heap[k]?=u.heap[k]?)->P u'):P (fill u B 0 vs):=
 h _ (x_ c _ _ (Z4 _ _)) (D5.zS hB hl) (X6.fill _ _ b) (fun k a=>nC k a _ _)
theorem a1J {X:World} {q:Nat} (h:D5 X q vs):∀ j v,vs[j]?=some v->X.cell? ((⟨q,0,none⟩:Addr).add j)=some v:=fun j v a=>by
 rw [Ag,L8];exact h j v a
theorem uD {base e size n:Nat} {v:Value} (h:u.ownsRow base e size v n xs) (hn:0<n):∃ g c,v=.slice (some ⟨g,0,none⟩) n c:=by
 rcases h.2 with ⟨_,h0⟩ | ⟨g,a,cur,hv,_⟩
 · omega
 exact ⟨g,a,hv⟩
theorem r7 {R:Ending->World->Prop} {d10:Value} (a:Below (d+2) V u) (U:V.cell? ⟨d,1,none⟩=some (.slice (some ⟨g,0,none⟩) ts.length tc)) (H:X6 V d) (hgl:g<d) (hC:∀ k,k<ts.length->V.cell? ⟨g,k,none⟩=some (.string (ts.getD k ByteArray.empty))) (hk:k<=ts.length) (htc:ts.length<=tc) (htm:tc<=maxLen) (hl:ts.length<=1000000) (hVz:d+2<=V.heap.size)
 (N:∀ (y56 y57 y58 y59 y60 y61 y62 y63 y64 y65 y66 y67 y68 y69 y70:Value) (g6 a4m:Nat) (E:World),Below (d+2) V E->E.ownsRow (d+2) 9 1 (.slice (some ⟨g6,0,none⟩) (k+1+(ts.length - k)) a4m) (k+1+(ts.length - k)) ((ts.take k++[t]++ts.drop k).map Value.string)->K { tmps:=#[d0,.string t,.pointer (some ⟨d,0,none⟩),d3,d4,d5,d6,.int .i64 k,d8,d9,d10,d11,d12,d13,d14,d15,d16,d17,d18,d19,d20,d21,d22,d23,d24,d25,d26,d27,d28,d29,d30,d31,d32,d33,d34,d35,d36,d37,d38,d39,d40,d41,d42,d43,d44,d45,d46,d47,d48,d49,d50,d51,d52,d53,d54,d55,y56,y57,y58,y59,y60,y61,y62,y63,y64,y65,y66,y67,y68,y69,y70,d71],defers:=[] } (E.setCell ⟨d,1,none⟩ (.slice (some ⟨g6,0,none⟩) (k+1+(ts.length - k)) a4m))):
 Code.wp prog (Code.region 7 #[⟨some 56,.buildSlice 22 0 #[],22, "l5_store.go:134",#[],none⟩,⟨some 57,.fieldAddr 43 (.tmp 2) 1,0, "l5_store.go:134",#[],none⟩,⟨some 58,.load 22 (.tmp 57),22, "l5_store.go:134",#[⟨1,.data⟩],none⟩,⟨some 59,.move (.tmp 7),3, "l5_store.go:134",#[],none⟩,⟨some 60,.slice 22 (.tmp 58) none (some (.tmp 59)) none,22, "l5_store.go:134",#[⟨2,.data⟩,⟨3,.data⟩],none⟩,⟨some 61,.call ⟨.builtin .append,#[.tmp 56,.tmp 60],#[22,22]⟩,22, "l5_store.go:134",#[⟨0,.data⟩,⟨4,.data⟩],none⟩,⟨some 62,.move (.tmp 1),9, "l5_store.go:134",#[],none⟩,⟨some 63,.buildSlice 22 1 #[(0,.tmp 62)],22, "l5_store.go:134",#[⟨6,.data⟩],none⟩,⟨some 64,.call ⟨.builtin .append,#[.tmp 61,.tmp 63],#[22,22]⟩,22, "l5_store.go:134",#[⟨5,.data⟩,⟨7,.data⟩,⟨5,.chain⟩],none⟩,⟨some 65,.fieldAddr 43 (.tmp 2) 1,0, "l5_store.go:134",#[],none⟩,⟨some 66,.load 22 (.tmp 65),22, "l5_store.go:134",#[⟨9,.data⟩],none⟩,⟨some 67,.move (.tmp 7),3, "l5_store.go:134",#[],none⟩,⟨some 68,.slice 22 (.tmp 66) (some (.tmp 67)) none none,22, "l5_store.go:134",#[⟨10,.data⟩,⟨11,.data⟩],none⟩,⟨some 69,.call ⟨.builtin .append,#[.tmp 64,.tmp 68],#[22,22]⟩,22, "l5_store.go:134",#[⟨8,.data⟩,⟨12,.data⟩,⟨8,.chain⟩],none⟩,⟨some 70,.fieldAddr 43 (.tmp 2) 1,0, "l5_store.go:134",#[⟨0,.phase⟩,⟨1,.phase⟩,⟨2,.phase⟩,⟨3,.phase⟩,⟨4,.phase⟩,⟨5,.phase⟩,⟨6,.phase⟩,⟨7,.phase⟩,⟨8,.phase⟩,⟨9,.phase⟩,⟨10,.phase⟩,⟨11,.phase⟩,⟨12,.phase⟩,⟨13,.phase⟩],none⟩,⟨none,.store 22 (.tmp 70) (.tmp 69),0, "l5_store.go:134",#[⟨14,.data⟩,⟨13,.data⟩,⟨13,.chain⟩,⟨0,.phase⟩,⟨1,.phase⟩,⟨2,.phase⟩,⟨3,.phase⟩,⟨4,.phase⟩,⟨5,.phase⟩,⟨6,.phase⟩,⟨7,.phase⟩,⟨8,.phase⟩,⟨9,.phase⟩,⟨10,.phase⟩,⟨11,.phase⟩,⟨12,.phase⟩,⟨13,.phase⟩],none⟩] true) (Exit.then K (bodyPost prog Tryz.f196 R)) { tmps:=#[d0,.string t,.pointer (some ⟨d,0,none⟩),d3,d4,d5,d6,.int .i64 k,d8,d9,d10,d11,d12,d13,d14,d15,d16,d17,d18,d19,d20,d21,d22,d23,d24,d25,d26,d27,d28,d29,d30,d31,d32,d33,d34,d35,d36,d37,d38,d39,d40,d41,d42,d43,d44,d45,d46,d47,d48,d49,d50,d51,d52,d53,d54,d55,d56,d57,d58,d59,d60,d61,d62,d63,d64,d65,d66,d67,d68,d69,d70,d71],defers:=[] } u:=by
 have P:Hid (∀ u,Below (d+2) V u->∀ j v,((ts.take k).map Value.string)[j]?=some v->u.cell? ((aA g 0).add j)=some v):=U0 (fun u C j v x=>by
  rw [Ag,L8,C.cell (p:=(aA g j)) (show g<d+2 by omega)];have F:j<k:=by have:=(Tm.1 x).1;simp at this;omega
  rw [hC j O0];rw [Yr,VB F,Z8 (show j<ts.length by omega)] at x;simp only [xw] at x;rw [<- x];simp only [List.getD,Z8 (show j<ts.length by omega),qf])
 obtain ⟨i0,L,hz0,I,hz2⟩:=info_parts' info9;obtain ⟨off,hoff,a6z⟩:∃ off,(off=k\/ts.length<=k)/\∀ u:World,(Instr.slice 22 (vL (some (aA g 0)) ts.length tc) (some (vI k)) none none).run prog u=.ok (vL (some (aA g off)) (ts.length - k) (tc - k)) u:=by
  refine ⟨if tc=k then 0 else k,?_,fun u=>?_⟩
  · by_cases h:tc=k
    · exact .inr O0
    · exact .inl (by rw [I7 h])
  · by_cases h:tc=k
    · simp [go_sem,Instr.slice,Instr.sliceBounds,Instr.sliceBound,asIntOf,L,I,h,hk,underlying22]
    · simp [go_sem,Instr.slice,Instr.sliceBounds,Instr.sliceBound,asIntOf,L,I,h,hk,underlying22]
 have O:Hid (∀ u,Below (d+2) V u->∀ j v,((ts.drop k).map Value.string)[j]?=some v->u.cell? ((aA g off).add j)=some v):=U0 (fun u C j v x=>by
  have F:k+j<ts.length:=by have:=(Tm.1 x).1;simp at this;omega
  obtain rfl:off=k:=hoff.resolve_right O0;rw [Ag,C.cell (p:=(aA g (off+j))) (show g<d+2 by omega)];rw [hC (off+j) F];rw [Yr,Yy,Z8 F] at x;simp only [xw] at x;rw [<- x];simp only [List.getD,Z8 F,qf])
 clear hoff;have z1:=(a.cell (p:=(aA d 1)) (show d<d+2 by omega)).trans U;have hkc:k<=tc:=O0;clear hC;clear L hz0 I hz2;have n:Hid (∀ u,Below (d+2) V u->u.cell? (aA d 1)=some (vL (some (aA g 0)) ts.length tc)):=fun u C=>(C.cell (p:=(aA d 1)) (show d<d+2 by omega)).trans U;have A:Hid (∀ l:LB,∀ u∈l.map Value.string,u.oneCell'=true):=fun l q hq=>by obtain ⟨t,_,rfl⟩:=Pm.1 hq;rfl
 have z:Inf prog 9 1:=Ll Y2;have l2:=G7 hVz a.size
 replace a:=a.drew
 refine Zn 15 (S:=fun u=>u.cell? (aA d 1)=some (vL (some (aA g 0)) ts.length tc)) Y2 (n.out _ a) fun hH=>?_;have b:d+2<=u.drew.heap.size:=l2;generalize u.drew=y at*;clear z1 l2;refine lq 1 hH ?_
 try simp only [qq]
 refine lq 2 hH ?_
 try simp only [qq]
 refine lq 3 hH ?_
 try simp only [qq]
 refine lq 4 hH ?_
 try simp only [qq]
 refine lq 6 hH ?_
 try simp only [qq]
 refine lq 9 hH ?_
 try simp only [qq]
 refine lq 10 hH ?_
 try simp only [qq]
 refine lq 11 hH ?_
 try simp only [qq]
 refine lq 12 hH ?_
 try simp only [qq]
 refine Vo (rs:=[0,7]) Y2 X4 ?_;refine b_.cons o6 (o:=⟨some 56,.buildSlice 22 0 #[],22,_,_,none⟩) rfl (fun K c=>?_) (b_.cons o6 (o:=⟨some 63,.buildSlice 22 1 #[(0,.tmp 62)],22,_,_,none⟩) rfl (fun K c=>?_) b_.nil);rotate_left
 · go_simp;have D:y.heap.size<(y.alloc (.cells #[vS t] 9)).heap.size:=X4;have Q:=U0 (Y4 y [vS t] 9)
   replace a:=a.alloc b (.cells #[vS t] 9)
   refine E8 c (n.out _ a) fun hH=>?_;clear c K
   replace b:d+2<=(y.alloc (.cells #[vS t] 9)).heap.size:=G7 b (Qo D)
   generalize y.alloc (.cells #[vS t] 9)=s at*;refine lr (i:=0) (o:=⟨some 56,.buildSlice 22 0 #[],22,_,_,none⟩) rfl o6 Y2 fun K c=>?_;go_simp;have J:s.heap.size<(s.alloc (.cells #[] 9)).heap.size:=X4
   replace Q:=U0 (Q.out.below (P6 (w:=s) (o:=.cells #[] 9)) Q.out.lt)
   have R:=U0 (KH (base:=d+2) (e:=9) (size:=1) s #[] 0 b (J4 _) rfl)
   replace a:=a.alloc b (.cells #[] 9)
   refine E8 c (n.out _ a) fun hH=>?_;clear c K
   replace b:d+2<=(s.alloc (.cells #[] 9)).heap.size:=G7 b (Qo J)
   generalize s.alloc (.cells #[] 9)=x0 at*;refine lr (i:=5) (o:=⟨some 61,.call ⟨.builtin .append,#[.tmp 56,.tmp 60],#[22,22]⟩,22,_,_,none⟩) rfl o6 Y2 fun K c=>?_;refine Aa rfl _ _ 22 rfl (d+2) 9 1 underlying22 z o6 _ 0 [] rfl R.out _ k ((ts.take k).map Value.string) rfl (.inr ⟨(aA g 0),tc,rfl,by simp;omega,P.out _ a⟩) (A.out _) O0 b ?_;intro Z r f m _
   replace a:=a.trans (P9 m (fun j e=>J6 R.out e) b)
   rw [L8,Ua] at f;obtain ⟨a5,c5,rfl⟩:=I9 f
   replace Q:=U0 (show Cl r _ 9 [vS t] from (m.block _ Q.out.lt (fun e=>absurd (w_ (show some y.heap.size=some s.heap.size from e)) O0)).trans Q.out)
   replace R:=U0 f
   replace b:=G7 b m.size
   clear f m;refine E8 c (n.out _ a) fun hH=>?_;clear c K;refine lr (i:=8) (o:=⟨some 64,.call ⟨.builtin .append,#[.tmp 61,.tmp 63],#[22,22]⟩,22,_,_,none⟩) rfl o6 Y2 fun K c=>?_;refine Aa rfl _ _ 22 rfl (d+2) 9 1 underlying22 z o6 _ k ((ts.take k).map Value.string) rfl R.out _ 1 [vS t] rfl (.inr ⟨_,1,rfl,rfl,um Q.out⟩) (o8 rfl) O0 b ?_;intro Y W f m _
   replace a:=a.trans (P9 m (fun j e=>J6 R.out e) b)
   obtain ⟨a8,c8,rfl⟩:=I9 f
   replace R:=U0 f
   replace b:=G7 b m.size
   clear f m;refine E8 c (n.out _ a) fun hH=>?_;clear c K;refine lr (i:=13) (o:=⟨some 69,.call ⟨.builtin .append,#[.tmp 64,.tmp 68],#[22,22]⟩,22,_,_,none⟩) rfl o6 Y2 fun K c=>?_;refine Aa rfl _ _ 22 rfl (d+2) 9 1 underlying22 z o6 _ (k+1) ((ts.take k).map Value.string++[Value.string t]) rfl R.out _ (ts.length - k) ((ts.drop k).map Value.string) rfl (.inr ⟨(aA g off),tc - k,rfl,by simp,O.out _ a⟩) (A.out _) O0 b ?_;intro v13 X f m _
   replace a:=a.trans (P9 m (fun j e=>J6 R.out e) b)
   obtain ⟨a13,c13,rfl⟩:=uD f O0
   replace R:=U0 f
   replace b:=G7 b m.size
   clear f m;refine E8 c (n.out _ a) fun hH=>?_;clear c K;refine lq 14 hH ?_
   try simp only [qq]
   refine lz (o:=⟨none,.store 22 (.tmp 70) (.tmp 69),0,_,_,none⟩) rfl Y2 fun K c=>?_;refine zA rfl (Yq 22 _ _ rfl (B:=d) (j:=1) rfl rfl ⟨_,n.out _ a⟩ ((H.below a O0) 1) Y2) ?_;refine c.out _ _ ?_;clear c K
   try simp only [qq]
   refine qo Y2 ?_ _;exact N _ _ _ _ _ _ _ _ _ _ _ _ _ _ _ _ _ _ a (by have h:=R.out;rw [Og,Og];exact h)
 go_simp;have J:y.heap.size<(y.alloc (.cells #[] 9)).heap.size:=X4;have R:=U0 (KH (base:=d+2) (e:=9) (size:=1) y #[] 0 b (J4 _) rfl)
 replace a:=a.alloc b (.cells #[] 9)
 refine E8 c (n.out _ a) fun hH=>?_;clear c K
 replace b:d+2<=(y.alloc (.cells #[] 9)).heap.size:=G7 b (Qo J)
 generalize y.alloc (.cells #[] 9)=x0 at*;refine Vo (rs:=[5,7]) Y2 X4 ?_;refine b_.cons o6 (o:=⟨some 61,.call ⟨.builtin .append,#[.tmp 56,.tmp 60],#[22,22]⟩,22,_,_,none⟩) rfl (fun K c=>?_) (b_.cons o6 (o:=⟨some 63,.buildSlice 22 1 #[(0,.tmp 62)],22,_,_,none⟩) rfl (fun K c=>?_) b_.nil);rotate_left
 · go_simp;have D:x0.heap.size<(x0.alloc (.cells #[vS t] 9)).heap.size:=X4
   replace R:=U0 (own_below R.out (P6 (w:=x0) (o:=.cells #[vS t] 9)))
   have Q:=U0 (Y4 x0 [vS t] 9)
   replace a:=a.alloc b (.cells #[vS t] 9)
   refine E8 c (n.out _ a) fun hH=>?_;clear c K
   replace b:d+2<=(x0.alloc (.cells #[vS t] 9)).heap.size:=G7 b (Qo D)
   generalize x0.alloc (.cells #[vS t] 9)=s at*;refine lr (i:=5) (o:=⟨some 61,.call ⟨.builtin .append,#[.tmp 56,.tmp 60],#[22,22]⟩,22,_,_,none⟩) rfl o6 Y2 fun K c=>?_;refine Aa rfl _ _ 22 rfl (d+2) 9 1 underlying22 z o6 _ 0 [] rfl R.out _ k ((ts.take k).map Value.string) rfl (.inr ⟨(aA g 0),tc,rfl,by simp;omega,P.out _ a⟩) (A.out _) O0 b ?_;intro Z r f m _
   replace a:=a.trans (P9 m (fun j e=>J6 R.out e) b)
   rw [L8,Ua] at f;obtain ⟨a5,c5,rfl⟩:=I9 f
   replace Q:=U0 (show Cl r _ 9 [vS t] from (m.block _ Q.out.lt (fun e=>absurd (w_ (show some x0.heap.size=some y.heap.size from e)) O0)).trans Q.out)
   replace R:=U0 f
   replace b:=G7 b m.size
   clear f m;refine E8 c (n.out _ a) fun hH=>?_;clear c K;refine lr (i:=8) (o:=⟨some 64,.call ⟨.builtin .append,#[.tmp 61,.tmp 63],#[22,22]⟩,22,_,_,none⟩) rfl o6 Y2 fun K c=>?_;refine Aa rfl _ _ 22 rfl (d+2) 9 1 underlying22 z o6 _ k ((ts.take k).map Value.string) rfl R.out _ 1 [vS t] rfl (.inr ⟨_,1,rfl,rfl,um Q.out⟩) (o8 rfl) O0 b ?_;intro Y W f m _
   replace a:=a.trans (P9 m (fun j e=>J6 R.out e) b)
   obtain ⟨a8,c8,rfl⟩:=I9 f
   replace R:=U0 f
   replace b:=G7 b m.size
   clear f m;refine E8 c (n.out _ a) fun hH=>?_;clear c K;refine lr (i:=13) (o:=⟨some 69,.call ⟨.builtin .append,#[.tmp 64,.tmp 68],#[22,22]⟩,22,_,_,none⟩) rfl o6 Y2 fun K c=>?_;refine Aa rfl _ _ 22 rfl (d+2) 9 1 underlying22 z o6 _ (k+1) ((ts.take k).map Value.string++[Value.string t]) rfl R.out _ (ts.length - k) ((ts.drop k).map Value.string) rfl (.inr ⟨(aA g off),tc - k,rfl,by simp,O.out _ a⟩) (A.out _) O0 b ?_;intro v13 X f m _
   replace a:=a.trans (P9 m (fun j e=>J6 R.out e) b)
   obtain ⟨a13,c13,rfl⟩:=uD f O0
   replace R:=U0 f
   replace b:=G7 b m.size
   clear f m;refine E8 c (n.out _ a) fun hH=>?_;clear c K;refine lq 14 hH ?_
   try simp only [qq]
   refine lz (o:=⟨none,.store 22 (.tmp 70) (.tmp 69),0,_,_,none⟩) rfl Y2 fun K c=>?_;refine zA rfl (Yq 22 _ _ rfl (B:=d) (j:=1) rfl rfl ⟨_,n.out _ a⟩ ((H.below a O0) 1) Y2) ?_;refine c.out _ _ ?_;clear c K
   try simp only [qq]
   refine qo Y2 ?_ _;exact N _ _ _ _ _ _ _ _ _ _ _ _ _ _ _ _ _ _ a (by have h:=R.out;rw [Og,Og];exact h)
 refine Aa rfl _ _ 22 rfl (d+2) 9 1 underlying22 z o6 _ 0 [] rfl R.out _ k ((ts.take k).map Value.string) rfl (.inr ⟨(aA g 0),tc,rfl,by simp;omega,P.out _ a⟩) (A.out _) O0 b ?_;intro Z r f m _
 replace a:=a.trans (P9 m (fun j e=>J6 R.out e) b)
 rw [L8,Ua] at f;obtain ⟨a5,c5,rfl⟩:=I9 f
 replace R:=U0 f
 replace b:=G7 b m.size
 clear f m;refine E8 c (n.out _ a) fun hH=>?_;clear c K;refine lr (i:=7) (o:=⟨some 63,.buildSlice 22 1 #[(0,.tmp 62)],22,_,_,none⟩) rfl o6 Y2 fun K c=>?_;go_simp;have D:r.heap.size<(r.alloc (.cells #[vS t] 9)).heap.size:=X4
 replace R:=U0 (own_below R.out (P6 (w:=r) (o:=.cells #[vS t] 9)))
 have Q:=U0 (Y4 r [vS t] 9)
 replace a:=a.alloc b (.cells #[vS t] 9)
 refine E8 c (n.out _ a) fun hH=>?_;clear c K
 replace b:d+2<=(r.alloc (.cells #[vS t] 9)).heap.size:=G7 b (Qo D)
 generalize r.alloc (.cells #[vS t] 9)=s at*;refine lr (i:=8) (o:=⟨some 64,.call ⟨.builtin .append,#[.tmp 61,.tmp 63],#[22,22]⟩,22,_,_,none⟩) rfl o6 Y2 fun K c=>?_;refine Aa rfl _ _ 22 rfl (d+2) 9 1 underlying22 z o6 _ k ((ts.take k).map Value.string) rfl R.out _ 1 [vS t] rfl (.inr ⟨_,1,rfl,rfl,um Q.out⟩) (o8 rfl) O0 b ?_;intro Y W f m _
 replace a:=a.trans (P9 m (fun j e=>J6 R.out e) b)
 obtain ⟨a8,c8,rfl⟩:=I9 f
 replace R:=U0 f
 replace b:=G7 b m.size
 clear f m;refine E8 c (n.out _ a) fun hH=>?_;clear c K;refine lr (i:=13) (o:=⟨some 69,.call ⟨.builtin .append,#[.tmp 64,.tmp 68],#[22,22]⟩,22,_,_,none⟩) rfl o6 Y2 fun K c=>?_;refine Aa rfl _ _ 22 rfl (d+2) 9 1 underlying22 z o6 _ (k+1) ((ts.take k).map Value.string++[Value.string t]) rfl R.out _ (ts.length - k) ((ts.drop k).map Value.string) rfl (.inr ⟨(aA g off),tc - k,rfl,by simp,O.out _ a⟩) (A.out _) O0 b ?_;intro v13 X f m _
 replace a:=a.trans (P9 m (fun j e=>J6 R.out e) b)
 obtain ⟨a13,c13,rfl⟩:=uD f O0
 replace R:=U0 f
 replace b:=G7 b m.size
 clear f m;refine E8 c (n.out _ a) fun hH=>?_;clear c K;refine lq 14 hH ?_
 try simp only [qq]
 refine lz (o:=⟨none,.store 22 (.tmp 70) (.tmp 69),0,_,_,none⟩) rfl Y2 fun K c=>?_;refine zA rfl (Yq 22 _ _ rfl (B:=d) (j:=1) rfl rfl ⟨_,n.out _ a⟩ ((H.below a O0) 1) Y2) ?_;refine c.out _ _ ?_;clear c K
 try simp only [qq]
 refine qo Y2 ?_ _;exact N _ _ _ _ _ _ _ _ _ _ _ _ _ _ _ _ _ _ a (by have h:=R.out;rw [Og,Og];exact h)
theorem c196 (W:Int) (ts:LB) (t:BY) (N g tc rn rc:Nat) (ra:OA) (w:World) (hA:Wh W ts) (hl:ts.length<=1000000) (hs:∀ i,(ts.getD i ByteArray.empty).size<=1048700) (ht:t.size<=1048700) (ho:w.ownsRow N 9 1 (.slice (some ⟨g,0,none⟩) ts.length tc) ts.length (ts.map Value.string)) (hN:N<=w.heap.size):
 Calls prog 196 #[.agg #[.int .i64 W,.slice (some ⟨g,0,none⟩) ts.length tc,.slice ra rn rc],.string t] w fun e w'=>(∃ g' c',e=.returned (.tuple #[.agg #[.int .i64 W,.slice (some ⟨g',0,none⟩) (Eb W t ts).1.length c',.slice ra rn rc],.bool (Eb W t ts).2])/\w'.ownsRow N 9 1 (.slice (some ⟨g',0,none⟩) (Eb W t ts).1.length c') (Eb W t ts).1.length ((Eb W t ts).1.map Value.string))/\Bw w w':=by
 obtain ⟨i0,hi,hz0,hz1,hz2⟩:=info_parts' info9;obtain ⟨X,htc,htm,hcs⟩:=YF ho;have O:Bw w ((w.alloc (.cells #[vI W,vL (some (aA g 0)) ts.length tc,vL ra rn rc] 43)).alloc (.cells #[vO,vN,vN] 43)):=P6.alloc X4 _;have s:Hid (((w.alloc (.cells #[vI W,vL (some (aA g 0)) ts.length tc,vL ra rn rc] 43)).alloc (.cells #[vO,vN,vN] 43)).heap.size=w.heap.size+2):=U0 X4;have I:Hid (D5 ((w.alloc (.cells #[vI W,vL (some (aA g 0)) ts.length tc,vL ra rn rc] 43)).alloc (.cells #[vO,vN,vN] 43)) w.heap.size [vI W,vL (some (aA g 0)) ts.length tc,vL ra rn rc]):=U0 ((Z7 w [vI W,vL (some (aA g 0)) ts.length tc,vL ra rn rc] 43).below (N:=w.heap.size+1) ((Z4 _ _).alloc X4 _) O0);have OS:Hid (X6 ((w.alloc (.cells #[vI W,vL (some (aA g 0)) ts.length tc,vL ra rn rc] 43)).alloc (.cells #[vO,vN,vN] 43)) w.heap.size):=U0 ((Qa w #[vI W,vL (some (aA g 0)) ts.length tc,vL ra rn rc] 43).below (N:=w.heap.size+1) ((Z4 _ _).alloc X4 _) O0);have BZ:Hid (D5 ((w.alloc (.cells #[vI W,vL (some (aA g 0)) ts.length tc,vL ra rn rc] 43)).alloc (.cells #[vO,vN,vN] 43)) (w.heap.size+1) [vO,vN,vN]):=by have h:=Z7 (w.alloc (.cells #[vI W,vL (some (aA g 0)) ts.length tc,vL ra rn rc] 43)) [vO,vN,vN] 43;rw [show (w.alloc (.cells #[vI W,vL (some (aA g 0)) ts.length tc,vL ra rn rc] 43)).heap.size=w.heap.size+1 by simp] at h;exact h
 have Y:Hid (X6 ((w.alloc (.cells #[vI W,vL (some (aA g 0)) ts.length tc,vL ra rn rc] 43)).alloc (.cells #[vO,vN,vN] 43)) (w.heap.size+1)):=by have h:=Qa (w.alloc (.cells #[vI W,vL (some (aA g 0)) ts.length tc,vL ra rn rc] 43)) #[vO,vN,vN] 43;rw [show (w.alloc (.cells #[vI W,vL (some (aA g 0)) ts.length tc,vL ra rn rc] 43)).heap.size=w.heap.size+1 by simp] at h;exact h
 have HC:Hid (∀ k,k<ts.length->((w.alloc (.cells #[vI W,vL (some (aA g 0)) ts.length tc,vL ra rn rc] 43)).alloc (.cells #[vO,vN,vN] 43)).cell? (aA g k)=some (vS (ts.getD k ByteArray.empty))):=U0 (fun k y=>(O.cell (p:=(aA g k)) X).trans (hcs k y));have HO:=U0 ho;have HS:=U0 hs;have L:=I.out 0 _ rfl;have r:=I.out 1 _ rfl;have y2:=I.out 2 _ rfl;clear ho hcs hs;go_enter func196,ntmps196
 go_wp2_with (refine (YA t W _ ht).mono ?_;rintro e w1 ⟨rfl,f⟩)
 generalize hV:((w.alloc (.cells #[vI W,vL (some (aA g 0)) ts.length tc,vL ra rn rc] 43)).alloc (.cells #[vO,vN,vN] 43))=V at*;clear hV;change Below _ _ _ at f;rw [s.out] at f;go_loopw [7] (fun i wr=>∃ k:Nat,k<=ts.length/\i=.int .i64 k/\Hid (∀ j,j<k->Zq (Z5 (ts.getD j ByteArray.empty) W) (Z5 t W)=true)/\Below (w.heap.size+2) V wr) (fun i _=>ts.length - (Go.RowKit.intOf i).toNat)
 case atStart=>exact ⟨0,J4 _,rfl,fun j D=>absurd D (J8 _),f⟩
 case round=>
  obtain ⟨k,y,rfl,D,z⟩:=hrel;have hwz:w.heap.size+2<=wr.heap.size:=by have:=z.size;rw [s.out] at this;exact this
  have R:=(z.cell (p:=(aW w 0)) (show w.heap.size<w.heap.size+2 by omega)).trans L;have Q:=(z.cell (p:=(aW w 1)) (show w.heap.size<w.heap.size+2 by omega)).trans r;by_cases U:k<ts.length
  · have J:=HC.out k U;have zk:=(z.cell (p:=(aA g k)) (show g<w.heap.size+2 by omega)).trans J;have hxl:=HS.out k;generalize hx:ts.getD k ByteArray.empty=x at*;have P:=U0 hx;clear hx
    go_wp2_with fail
    refine wp_region_held_drew (S:=(fun u=>u.cell? (aW w 0)=some (vI W)/\u.cell? (aW w 1)=some (vL (some (aA g 0)) ts.length tc)/\u.cell? (aA g k)=some (vS x))) Y2 ?_ fun hHeld=>?_
    · exact ⟨R,Q,zk⟩
    refine Y0 0 ?_;refine Y0 1 ?_;refine Y0 2 ?_;refine Y0 3 ?_;refine Y0 4 ?_;refine Y0 5 ?_;refine Y0 6 ?_;refine Y0 7 ?_;refine Y0 8 ?_;refine Y0 9 ?_;refine Y0 10 ?_;refine Y0 11 ?_;refine Y0 12 ?_;refine Y0 14 ?_;refine rq 13 fun K n=>?_;go_simp;refine (YA x W _ hxl).mono ?_;rintro e u1 ⟨rfl,f⟩
    go_wp2_with fail
    have A:=z.drew.trans (f.mono (show w.heap.size+2<=_ by simpa using hwz));have hwz1:w.heap.size+2<=u1.heap.size:=by have:=A.size;rw [s.out] at this;exact this
    have p0:=(A.cell (p:=(aW w 0)) (show w.heap.size<w.heap.size+2 by omega)).trans L;have p1:=(A.cell (p:=(aW w 1)) (show w.heap.size<w.heap.size+2 by omega)).trans r;have pk:=(A.cell (p:=(aA g k)) (show g<w.heap.size+2 by omega)).trans J;clear hHeld f;refine E8 n ⟨p0,p1,pk⟩ fun hHeld=>?_;clear n K;refine Y0 15 ?_;refine Y0 16 ?_;refine wdn ?_;clear hHeld;cases hy:Op.bytesLess (Z5 x W).toList (Z5 t W).toList
    · go_wp2_with fail
      refine wp_region_held_drew (S:=(fun u=>u.cell? (aW w 0)=some (vI W)/\u.cell? (aW w 1)=some (vL (some (aA g 0)) ts.length tc)/\u.cell? (aA g k)=some (vS x))) Y2 ?_ fun hHeld=>?_
      · exact ⟨p0,p1,pk⟩
      refine Y0 0 ?_;refine Y0 1 ?_;refine Y0 2 ?_;refine Y0 3 ?_;refine Y0 4 ?_;refine Y0 5 ?_;refine Y0 6 ?_;refine Y0 7 ?_;refine Y0 8 ?_;refine Y0 9 ?_;refine Y0 10 ?_;refine Y0 11 ?_;refine Y0 12 ?_;refine Y0 14 ?_;refine rq 13 fun K n=>?_;go_simp;refine (YA x W _ hxl).mono ?_;rintro e u2 ⟨rfl,f⟩
      go_wp2_with fail
      have l:=A.drew.trans (f.mono (show w.heap.size+2<=_ by simpa using hwz1));have a6A:w.heap.size+2<=u2.heap.size:=by have:=l.size;rw [s.out] at this;exact this
      have q0:=(l.cell (p:=(aW w 0)) (show w.heap.size<w.heap.size+2 by omega)).trans L;have q1:=(l.cell (p:=(aW w 1)) (show w.heap.size<w.heap.size+2 by omega)).trans r;have qk:=(l.cell (p:=(aA g k)) (show g<w.heap.size+2 by omega)).trans J;clear hHeld f;refine E8 n ⟨q0,q1,qk⟩ fun hHeld=>?_;clear n K;refine Y0 15 ?_;refine Y0 16 ?_;refine wdn ?_;clear hHeld;cases he:((Z5 x W).toList==(Z5 t W).toList)
      · go_wp2_with fail
        have hnb:Zq (Z5 x W) (Z5 t W)=false:=by rw [<- OG];exact hy
        have hne:Z5 x W≠Z5 t W:=by have:=(ny _ _).symm.trans he;simpa using this
        have o:=U0 (vJ hA y D.out (fun _=>by rw [P.out];exact ⟨hnb,hne⟩));clear hnb hne hy he;refine r7 l r OS.out X HC.out y htc htm hl (by rw [s.out];exact v_ _) ?_;intro y56 y57 y58 y59 y60 y61 y62 y63 y64 y65 y66 y67 y68 y69 y70 g6 a E d RE;have C:k+1+(ts.length - k)=(ts.take k++[t]++ts.drop k).length:=U7;generalize k+1+(ts.length - k)=n6 at*;have q:=U0 C;have Z:=U0 RE;have m:=(I.out.below d O0).set 1 (vL (some (aA g6 0)) n6 a) X4;have w0:=m 0 _ rfl;have w1':=m 1 _ rfl;have w2:=m 2 _ rfl;have bz:=(BZ.out.below d O0).other (aW w 1) (vL (some (aA g6 0)) n6 a) (by show w.heap.size≠w.heap.size+1;omega);have c:=(Y.out.below d O0).set (aW w 1) (vL (some (aA g6 0)) n6 a);have r0:=bz 0 _ rfl;have r1:=bz 1 _ rfl;have r2:=bz 2 _ rfl;have f0:=c 0;have f1:=c 1;have f2:=c 2;have b:D5 ((((E.setCell (aW w 1) (vL (some (aA g6 0)) n6 a)).setCell (aA (w.heap.size+1) 0) (vI W)).setCell (aA (w.heap.size+1) 1) (vL (some (aA g6 0)) n6 a)).setCell (aA (w.heap.size+1) 2) (vL ra rn rc)) (w.heap.size+1) [vI W,vL (some (aA g6 0)) n6 a,vL ra rn rc]:=((bz.set 0 _ X4).set 1 _ X4).set 2 _ X4;have e0:=b 0 _ rfl;have e1:=b 1 _ rfl;have F:=b 2 _ rfl;have B:Hid (Bw w ((((E.setCell (aW w 1) (vL (some (aA g6 0)) n6 a)).setCell (aA (w.heap.size+1) 0) (vI W)).setCell (aA (w.heap.size+1) 1) (vL (some (aA g6 0)) n6 a)).setCell (aA (w.heap.size+1) 2) (vL ra rn rc))):=U0 (((((O.trans (d.mono O0)).setCell (p:=(aW w 1)) H8 _).setCell (p:=(aA (w.heap.size+1) 0)) (Io _) _).setCell (p:=(aA (w.heap.size+1) 1)) (Io _) _).setCell (p:=(aA (w.heap.size+1) 2)) (Io _) _);have HOW:Hid (((((E.setCell (aW w 1) (vL (some (aA g6 0)) n6 a)).setCell (aA (w.heap.size+1) 0) (vI W)).setCell (aA (w.heap.size+1) 1) (vL (some (aA g6 0)) n6 a)).setCell (aA (w.heap.size+1) 2) (vL ra rn rc)).ownsRow N 9 1 (vL (some (aA g6 0)) n6 a) n6 ((ts.take k++[t]++ts.drop k).map Value.string)):=U0 (H9 (qg (qg (qg (qg Z.out _ _ (by show w.heap.size<w.heap.size+2;omega)) _ _ (by show w.heap.size+1<w.heap.size+2;omega)) _ _ (by show w.heap.size+1<w.heap.size+2;omega)) _ _ (by show w.heap.size+1<w.heap.size+2;omega)) O0);clear C RE b m bz c;go_wp2;refine Y6 (v:=.tuple #[.agg #[vI W,vL (some (aA g6 0)) n6 a,vL ra rn rc],.bool true]) (by simp [results,results196,go_sem,e0,e1,F]) rfl ⟨⟨g6,a,?_,?_⟩,B.out⟩
        · rw [o.out,q.out]
        · rw [o.out];have h:=HOW.out;rw [q.out] at h;rw [q.out];exact h
      · go_wp2_with fail
        have q2:=(l.cell (p:=(aW w 2)) (show w.heap.size<w.heap.size+2 by omega)).trans y2;have bz:=BZ.out.below l O0;have c:=Y.out.below l O0;have o:Hid (Eb W t ts=(ts,decide (x=t))):=by
         have h:=OM (t:=t) hA U (by rw [P.out];have:=(ny _ _).symm.trans he;simpa using this);rw [P.out] at h;exact h
        refine wp_region_held_drew (S:=(fun u=>u.cell? (aW w 0)=some (vI W)/\u.cell? (aW w 1)=some (vL (some (aA g 0)) ts.length tc)/\u.cell? (aW w 2)=some (vL ra rn rc)/\u.cell? (aA g k)=some (vS x))) Y2 ?_ fun hHeld=>?_
        · exact ⟨q0,q1,q2,qk⟩
        refine Y0 0 ?_;refine Y0 1 ?_;refine Y0 2 ?_;refine Y0 3 ?_;refine Y0 4 ?_;refine Y0 5 ?_;refine Y0 6 ?_;refine Y0 7 ?_;refine rq 8 fun K n=>?_;refine Ea rfl 43 (.tmp 4) (.tmp 48) rfl (w.heap.size+1) 0 rfl [vI W,vL (some (aA g 0)) ts.length tc,vL ra rn rc] rfl (RG bz rfl) c (by simp [Value.oneCell']) Y2 rfl ?_;clear hHeld;refine YO (old:=[vO,vN,vN]) (N:=w.heap.size+1) rfl bz c H8 ?_;intro E d b OE hE;have H:=(l.drew.mono O0).trans d;have x0:=(H.cell (p:=(aW w 0)) (show w.heap.size<w.heap.size+1 by omega)).trans L;have x1:=(H.cell (p:=(aW w 1)) (show w.heap.size<w.heap.size+1 by omega)).trans r;have x2:=(H.cell (p:=(aW w 2)) (show w.heap.size<w.heap.size+1 by omega)).trans y2;have xk:=(H.cell (p:=(aA g k)) (show g<w.heap.size+1 by omega)).trans J;refine E8 n ⟨x0,x1,x2,xk⟩ fun hHeld=>?_;clear n K;refine Y0 9 ?_;refine wdn ?_;clear hHeld;have e0:=b 0 _ rfl;have e1:=b 1 _ rfl;have F:=b 2 _ rfl;have B:=O.trans (H.mono O0);go_wp2;refine Y6 (v:=.tuple #[.agg #[vI W,vL (some (aA g 0)) ts.length tc,vL ra rn rc],.bool (x.toList==t.toList)]) (by simp [results,results196,go_sem,e0,e1,F]) rfl ⟨⟨g,tc,?_,?_⟩,B⟩
        · rw [o.out,ny]
        · rw [o.out];exact own_below HO.out B
    · go_wp2;go_roundw
      case rel=>exact ⟨k+1,O0,by go_num,fun j hj2=>by
       rcases Q7 j k with h | h
       · exact D.out j h
       · obtain rfl:j=k:=O0;rw [P.out,<- OG];exact hy,A⟩
      case measure=>simp [Go.RowKit.intOf];omega
  · go_wp2_with fail
    refine wp_region_held_drew (S:=(fun u=>u.cell? (aW w 0)=some (vI W)/\u.cell? (aW w 1)=some (vL (some (aA g 0)) ts.length tc))) Y2 ?_ fun hHeld=>?_
    · exact ⟨R,Q⟩
    refine Y0 0 ?_;refine Y0 1 ?_;refine Y0 2 ?_;refine Y0 3 ?_;refine Y0 4 ?_;refine Y0 5 ?_;refine E5 6 ?_;refine E5 7 ?_;refine E5 8 ?_;refine E5 9 ?_;refine E5 10 ?_;refine E5 11 ?_;refine E5 12 ?_;refine E5 13 ?_;refine E5 14 ?_;refine E5 15 ?_;refine Y0 16 ?_;refine wdn ?_;clear hHeld
    go_wp2_with fail
    refine wp_region_held_drew (S:=(fun u=>u.cell? (aW w 0)=some (vI W)/\u.cell? (aW w 1)=some (vL (some (aA g 0)) ts.length tc))) Y2 ?_ fun hHeld=>?_
    · exact ⟨R,Q⟩
    refine Y0 0 ?_;refine Y0 1 ?_;refine Y0 2 ?_;refine Y0 3 ?_;refine Y0 4 ?_;refine Y0 5 ?_;refine E5 6 ?_;refine E5 7 ?_;refine E5 8 ?_;refine E5 9 ?_;refine E5 10 ?_;refine E5 11 ?_;refine E5 12 ?_;refine E5 13 ?_;refine E5 14 ?_;refine E5 15 ?_;refine Y0 16 ?_;refine wdn ?_;clear hHeld
    go_wp2_with fail
    have o:=U0 (vJ hA y D.out (fun h=>absurd h U));refine r7 z.drew.drew r OS.out X HC.out y htc htm hl (by rw [s.out];exact v_ _) ?_;intro y56 y57 y58 y59 y60 y61 y62 y63 y64 y65 y66 y67 y68 y69 y70 g6 a E d RE;have C:k+1+(ts.length - k)=(ts.take k++[t]++ts.drop k).length:=U7;generalize k+1+(ts.length - k)=n6 at*;have q:=U0 C;have Z:=U0 RE;have m:=(I.out.below d O0).set 1 (vL (some (aA g6 0)) n6 a) X4;have w0:=m 0 _ rfl;have w1':=m 1 _ rfl;have w2:=m 2 _ rfl;have bz:=(BZ.out.below d O0).other (aW w 1) (vL (some (aA g6 0)) n6 a) (by show w.heap.size≠w.heap.size+1;omega);have c:=(Y.out.below d O0).set (aW w 1) (vL (some (aA g6 0)) n6 a);have r0:=bz 0 _ rfl;have r1:=bz 1 _ rfl;have r2:=bz 2 _ rfl;have f0:=c 0;have f1:=c 1;have f2:=c 2;have b:D5 ((((E.setCell (aW w 1) (vL (some (aA g6 0)) n6 a)).setCell (aA (w.heap.size+1) 0) (vI W)).setCell (aA (w.heap.size+1) 1) (vL (some (aA g6 0)) n6 a)).setCell (aA (w.heap.size+1) 2) (vL ra rn rc)) (w.heap.size+1) [vI W,vL (some (aA g6 0)) n6 a,vL ra rn rc]:=((bz.set 0 _ X4).set 1 _ X4).set 2 _ X4;have e0:=b 0 _ rfl;have e1:=b 1 _ rfl;have F:=b 2 _ rfl;have B:Hid (Bw w ((((E.setCell (aW w 1) (vL (some (aA g6 0)) n6 a)).setCell (aA (w.heap.size+1) 0) (vI W)).setCell (aA (w.heap.size+1) 1) (vL (some (aA g6 0)) n6 a)).setCell (aA (w.heap.size+1) 2) (vL ra rn rc))):=U0 (((((O.trans (d.mono O0)).setCell (p:=(aW w 1)) H8 _).setCell (p:=(aA (w.heap.size+1) 0)) (Io _) _).setCell (p:=(aA (w.heap.size+1) 1)) (Io _) _).setCell (p:=(aA (w.heap.size+1) 2)) (Io _) _);have HOW:Hid (((((E.setCell (aW w 1) (vL (some (aA g6 0)) n6 a)).setCell (aA (w.heap.size+1) 0) (vI W)).setCell (aA (w.heap.size+1) 1) (vL (some (aA g6 0)) n6 a)).setCell (aA (w.heap.size+1) 2) (vL ra rn rc)).ownsRow N 9 1 (vL (some (aA g6 0)) n6 a) n6 ((ts.take k++[t]++ts.drop k).map Value.string)):=U0 (H9 (qg (qg (qg (qg Z.out _ _ (by show w.heap.size<w.heap.size+2;omega)) _ _ (by show w.heap.size+1<w.heap.size+2;omega)) _ _ (by show w.heap.size+1<w.heap.size+2;omega)) _ _ (by show w.heap.size+1<w.heap.size+2;omega)) O0);clear C RE b m bz c;go_wp2;refine Y6 (v:=.tuple #[.agg #[vI W,vL (some (aA g6 0)) n6 a,vL ra rn rc],.bool true]) (by simp [results,results196,go_sem,e0,e1,F]) rfl ⟨⟨g6,a,?_,?_⟩,B.out⟩
    · rw [o.out,q.out]
    · rw [o.out];have h:=HOW.out;rw [q.out] at h;rw [q.out];exact h
theorem JJ (c:Int) (s a:BY) (w:World) (hf:XA c s=a) (b:s.size<=1048700):Calls prog 197 #[.agg #[.int .i64 c,.string s]] w fun e w'=>e=.returned (.string a)/\Bw w w':=by
 rw [<- hf];exact UR c s w b
theorem NT {E a:World} {f:Nat} {W0:Int} {b:LB} (h:LC V N A W0 T g c P a2 c2 vs E) (ho:E.ownsRow N 9 1 (.slice (some ⟨d,0,none⟩) b.length f) b.length (b.map Value.string)) (i:∀ k,k≠A->a.heap[k]?=E.heap[k]?) (n:D5 a A [.int .i64 W0,.slice (some ⟨d,0,none⟩) b.length f,.slice a2 P.length c2]) (m:X6 a A) (ht:ng a A 43) (hB:Below N V a):LC V N A W0 b d f P a2 c2 vs a:=by
 refine ⟨n,h.rc.keep (fun q t hT j _=>i q (fun e=>?_)),o7 ho (fun q l=>i q (fun e=>?_)),m,ht,h.na,hB⟩
 · have o:=Y8 hT (e▸h.t1);rcases j with rfl | rfl <;> exact absurd o o6
 · exact absurd (Y8 (N8 ho l) (e▸h.t1)) o6
theorem lM (W:Int) (t:BY) (ts:LB):(Xl W t ts).length=ts.length+1:=by
 induction ts with
 | nil=>rfl
 | cons y r ih=>
  unfold Xl;split
  · rfl
  · rw [o_,ih,o_]
theorem YR (h:x∈Xl W t ts):x=t\/x∈ts:=by
 induction ts with
 | nil=>exact .inl (Dv.1 h)
 | cons y r ih=>
  unfold Xl at h;split at h
  · rcases Jd.1 h with h | h
    · exact .inl h
    · exact .inr h
  · rcases Jd.1 h with h | h
    · exact .inr (h▸Zp)
    · exact (ih h).imp id (Rf _)
theorem UN (W:Int) (t:BY) (ts:LB):(Eb W t ts).1.length<=ts.length+1:=by
 unfold Eb;split
 · exact Io _
 · exact qj (lM W t ts)
theorem OO (h:x∈(Eb W t ts).1):x=t\/x∈ts:=by
 unfold Eb at h;split at h
 · exact .inr h
 · exact YR h
theorem Gv (W:Int) (a:LB):∀ s:LB×Bool,(Y7 W a s).1.length<=s.1.length+a.length:=by
 induction a with
 | nil=>exact fun s=>v_ _
 | cons t r ih=>
  intro s;have h1:=ih ((Eb W t s.1).1,s.2&&(Eb W t s.1).2);have h2:=UN W t s.1;show (Y7 W r _).1.length<=_;rw [o_];simp only [] at h1;omega
theorem iy (a:LB):∀ s:LB×Bool,x∈(Y7 W a s).1->x∈a\/x∈s.1:=by
 induction a with
 | nil=>exact fun s h=>.inr h
 | cons t r ih=>
  intro s h;rcases ih ((Eb W t s.1).1,s.2&&(Eb W t s.1).2) h with h | h
  · exact .inl (Rf _ h)
  · rcases OO h with h | h
    · exact .inl (h▸Zp)
    · exact .inr h
theorem Xv (W:Int) (a:LB) (t:BY) (s:LB×Bool):Y7 W (a++[t]) s=((Eb W t (Y7 W a s).1).1,(Y7 W a s).2&&(Eb W t (Y7 W a s).1).2):=by
 rw [qm];rfl
theorem nM (ls:List L4):(n_ ls).length<=ls.length:=by
 induction ls with
 | nil=>exact v_ _
 | cons x r ih=>
  unfold n_;split
  · exact aJ ih
  · exact Nat.succ_le_succ ih
def oC (ls:List L4) (k:Nat):LB:=(n_ (ls.take k)).map fun r=>XA r.1 r.2
theorem MP {ls:List L4} (a:k<ls.length):oC ls (k+1)=oC ls k++(if (ls.getD k E_).has then [] else [XA (ls.getD k E_).cd (ls.getD k E_).tx]):=by
 have e:ls.take (k+1)=ls.take k++[ls.getD k E_]:=by
  rw [Ey a];simp only [List.getD,Z8 a,qf]
 unfold oC;rw [e,jv,Og];split <;> rfl
theorem XK (ls:List L4) (k:Nat):(oC ls k).length<=ls.length:=by
 unfold oC;rw [Vd];have:=nM (ls.take k);have:=List.length_take_le' k ls;omega
theorem a1m (ls:List L4) (c:Int) (t:BY):Jl ls c t=oC ls ls.length++[XA c t]:=by
 unfold Jl oC;rw [Yp,Og];rfl
theorem eu {t:TypeId} (h:Cl w B t xs):ng w B t:=⟨_,_,h⟩
theorem r11 {d7 d98 d99:Value} {C:BY} {s:LB} {lq H lc:Nat} (O:D5 u A [.int .i64 W,.slice (some ⟨g,0,none⟩) T.length c,.slice a2 P.length c2]) (J:A<u.heap.size) (Z:lb<u.heap.size) (z3:u.cell? ⟨lb,lq+k*4+2,none⟩=some (.int .i64 cd)) (z4:u.cell? ⟨lb,lq+k*4+3,none⟩=some (.string tx)) (hf:XA cd tx=C) (V:tx.size<=1048700) (hfm:C.size<=1048700) (hA:Wh W T) (hl:T.length<=1000000) (X:∀ i,(T.getD i ByteArray.empty).size<=1048700) (Y:Eb W C T=(s,b')) (ho:u.ownsRow N 9 1 (.slice (some ⟨g,0,none⟩) T.length c) T.length (T.map Value.string)) (hN:N<=u.heap.size) (hkl:k<H)
 (hQ:∀ (d:Nat) v c (a:Act) w,Q (.panic c) (a.put (some d) v) w->Q (.panic c) a w) (I:∀ (y44 y45 y46 y47 y48 y49 y50 y51 y52 y53 y54:Value) (n r B:Nat) (E:World),Bw u E->u.heap.size<=B->B<E.heap.size->D5 E B [.int .i64 W,.slice (some ⟨n,0,none⟩) s.length r,.slice a2 P.length c2]->E.ownsRow N 9 1 (.slice (some ⟨n,0,none⟩) s.length r) s.length (s.map Value.string)->K { tmps:=#[d0,d1,.slice (some ⟨lb,lq,none⟩) H lc,d3,d4,d5,d6,d7,d8,d9,.pointer (some ⟨A,0,none⟩),d11,.int .i64 k,.pointer (some ⟨B,0,none⟩),.bool b',d15,d16,d17,d18,d19,d20,d21,d22,d23,d24,d25,d26,d27,d28,d29,d30,d31,d32,d33,d34,d35,d36,d37,d38,d39,d40,d41,d42,d43,y44,y45,y46,y47,y48,y49,y50,y51,y52,y53,y54,d55,d56,d57,d58,d59,d60,d61,d62,d63,d64,d65,d66,d67,d68,d69,d70,d71,d72,d73,d74,d75,d76,d77,d78,d79,d80,d81,d82,d83,d84,d85,d86,d87,d88,d89,d90,d91,d92,d93,d94,d95,d96,d97,d98,d99,d100,d101,d102,d103,d104,d105,d106,d107,d108,d109,d110,d111,d112,d113,d114,d115,d116,d117],defers:=[] } E):
 Code.wp prog (Code.region 11 #[⟨some 45,.load 43 (.tmp 10),43, "l5_store.go:182",#[],none⟩,⟨some 46,.move (.tmp 2),102, "l5_store.go:182",#[],none⟩,⟨some 47,.move (.tmp 12),3, "l5_store.go:182",#[],none⟩,⟨some 48,.indexAddr 102 (.tmp 46) (.tmp 47),0, "l5_store.go:182",#[⟨1,.data⟩,⟨2,.data⟩],none⟩,⟨some 49,.fieldAddr 185 (.tmp 48) 2,0, "l5_store.go:182",#[⟨3,.data⟩],none⟩,⟨some 50,.load 103 (.tmp 49),103, "l5_store.go:182",#[⟨4,.data⟩],none⟩,⟨some 51,.call ⟨.value (.func 197),#[.tmp 50],#[103]⟩,9, "l5_store.go:182",#[⟨5,.data⟩],none⟩,⟨some 52,.call ⟨.value (.func 196),#[.tmp 45,.tmp 51],#[43,9]⟩,273, "l5_store.go:182",#[⟨0,.data⟩,⟨6,.data⟩,⟨6,.chain⟩],none⟩,⟨some 44,.move (.tmp 52),273, "l5_store.go:182",#[⟨7,.data⟩],none⟩,⟨some 53,.extract (.tmp 44) 0,43, "l5_store.go:182",#[⟨8,.data⟩],none⟩,⟨some 54,.extract (.tmp 44) 1,4, "l5_store.go:182",#[⟨8,.data⟩,⟨12,.gcOnly .lateStores⟩],none⟩,⟨some 13,.alloc 43,0, "l5_store.go:182",#[],none⟩,⟨none,.store 43 (.tmp 13) (.tmp 53),0, "l5_store.go:182",#[⟨11,.data⟩,⟨9,.data⟩,⟨7,.chain⟩,⟨0,.phase⟩,⟨1,.phase⟩,⟨2,.phase⟩,⟨3,.phase⟩,⟨4,.phase⟩,⟨5,.phase⟩,⟨6,.phase⟩,⟨7,.phase⟩,⟨8,.phase⟩,⟨9,.phase⟩,⟨10,.textOnly .lateStores⟩,⟨11,.phase⟩],none⟩,⟨some 14,.assign (.tmp 54),4, "l5_store.go:182",#[⟨10,.data⟩,⟨12,.chain⟩,⟨0,.phase⟩,⟨1,.phase⟩,⟨2,.phase⟩,⟨3,.phase⟩,⟨4,.phase⟩,⟨5,.phase⟩,⟨6,.phase⟩,⟨7,.phase⟩,⟨8,.phase⟩,⟨9,.phase⟩,⟨10,.phase⟩,⟨11,.phase⟩,⟨12,.phase⟩],none⟩] true) (Exit.then K Q) { tmps:=#[d0,d1,.slice (some ⟨lb,lq,none⟩) H lc,d3,d4,d5,d6,d7,d8,d9,.pointer (some ⟨A,0,none⟩),d11,.int .i64 k,d13,d14,d15,d16,d17,d18,d19,d20,d21,d22,d23,d24,d25,d26,d27,d28,d29,d30,d31,d32,d33,d34,d35,d36,d37,d38,d39,d40,d41,d42,d43,d44,d45,d46,d47,d48,d49,d50,d51,d52,d53,d54,d55,d56,d57,d58,d59,d60,d61,d62,d63,d64,d65,d66,d67,d68,d69,d70,d71,d72,d73,d74,d75,d76,d77,d78,d79,d80,d81,d82,d83,d84,d85,d86,d87,d88,d89,d90,d91,d92,d93,d94,d95,d96,d97,d98,d99,d100,d101,d102,d103,d104,d105,d106,d107,d108,d109,d110,d111,d112,d113,d114,d115,d116,d117],defers:=[] } u:=by
 have HF:=U0 hf;have t:Hid (∀ v,Bw u v->v.cell? (aA A 0)=some (vI W)/\v.cell? (aA A 1)=some (vL (some (aA g 0)) T.length c)/\v.cell? (aA A 2)=some (vL a2 P.length c2)/\v.cell? (aA lb (lq+k*4+2))=some (vI cd)/\v.cell? (aA lb (lq+k*4+3))=some (vS tx)):=fun v hv=>⟨(hv.cell (p:=(aA A 0)) J).trans (O 0 _ rfl),(hv.cell (p:=(aA A 1)) J).trans (O 1 _ rfl),(hv.cell (p:=(aA A 2)) J).trans (O 2 _ rfl),(hv.cell (p:=(aA lb (lq+k*4+2))) Z).trans z3,(hv.cell (p:=(aA lb (lq+k*4+3))) Z).trans z4⟩;have L:∀ v,Bw u v->Calls prog 196 #[.agg #[.int .i64 W,.slice (some ⟨g,0,none⟩) T.length c,.slice a2 P.length c2],.string C] v fun e w'=>(∃ n r,e=.returned (.tuple #[.agg #[vI W,vL (some (aA n 0)) s.length r,vL a2 P.length c2],.bool b'])/\w'.ownsRow N 9 1 (vL (some (aA n 0)) s.length r) s.length (s.map Value.string))/\Bw v w':=fun v hv=>by
  have h:=c196 W T C N g c P.length c2 a2 v hA hl X hfm (own_below ho hv) (G7 hN hv.size);rw [Y] at h;exact h
 clear hf Y hA X ho;have b:Bw u u.drew:=(Z4 _ _).drew;refine wp_region_held_drew (S:=fun u=>u.cell? (aA A 0)=some (vI W)/\u.cell? (aA A 1)=some (vL (some (aA g 0)) T.length c)/\u.cell? (aA A 2)=some (vL a2 P.length c2)/\u.cell? (aA lb (lq+k*4+2))=some (vI cd)/\u.cell? (aA lb (lq+k*4+3))=some (vS tx)) Y2 (t.out _ b) fun hH=>?_;generalize u.drew=y at*;refine Y0 0 ?_;refine Y0 1 ?_;refine Y0 2 ?_;refine Y0 3 ?_;refine Y0 4 ?_;refine Y0 5 ?_;refine wpAnyH_ready (rs:=[6,11]) Y2 X4 ?_;refine AllReadyH.cons (o:=⟨some 51,.call ⟨.value (.func 197),#[.tmp 50],#[103]⟩,9,_,_,none⟩) rfl (fun K f=>?_) (AllReadyH.cons (o:=⟨some 13,.alloc 43,0,_,_,none⟩) rfl (fun K f=>?_) AllReadyH.nil);rotate_left
 · go_simp;have m:=U0 (Y4 y [vO,vN,vN] 43);have hB:=b.size
   replace b:=X5 b (P6 (w:=y) (o:=.cells #[vO,vN,vN] 43))
   refine E8 f (t.out _ b) fun hH=>?_;clear f K;generalize y.alloc (.cells #[vO,vN,vN] 43)=U at*;refine rq 6 fun K f=>?_;go_simp;refine (JJ cd tx C _ HF.out V).mono ?_;rintro e D ⟨rfl,l⟩
   replace m:=U0 (m.out.below l m.out.lt)
   replace b:=X5 b l
   clear l;go_simp;refine E8 f (t.out _ b) fun hH=>?_;clear f K;refine rq 7 fun K f=>?_;go_simp;refine (L _ b).mono ?_;rintro e v2 ⟨⟨n,r,rfl,hr⟩,l⟩;have R:=U0 hr;clear hr
   replace m:=U0 (m.out.below l m.out.lt)
   replace b:=X5 b l
   clear l;go_simp;refine E8 f (t.out _ b) fun hH=>?_;clear f K;refine Y0 8 ?_;refine Y0 9 ?_;refine Y0 10 ?_;refine rq 12 fun K f=>?_;refine t_ rfl 43 _ _ rfl (B:=y.heap.size) (j:=0) rfl (vs:=[vI W,vL (some (aA n 0)) s.length r,vL a2 P.length c2]) rfl m.out H8 (o8 rfl) Y2 ?_;intro E z x;have RE:=o7 R.out (fun q F=>x.block q (fun e=>absurd (Y8 (N8 R.out F) (e▸eu m.out)) o6))
   replace b:=b.trans (x.below hB)
   refine E8 f (t.out _ b) fun hH=>?_;clear f K;refine Y0 13 ?_;refine wdn ?_;exact I _ _ _ _ _ _ _ _ _ _ _ n r y.heap.size E b hB z.lt z.blk RE
 go_simp;refine (JJ cd tx C _ HF.out V).mono ?_;rintro e D ⟨rfl,l⟩
 replace b:=X5 b l
 clear l;go_simp;refine E8 f (t.out _ b) fun hH=>?_;clear f K;refine wpAnyH_ready (rs:=[7,11]) Y2 X4 ?_;refine AllReadyH.cons (o:=⟨some 52,.call ⟨.value (.func 196),#[.tmp 45,.tmp 51],#[43,9]⟩,273,_,_,none⟩) rfl (fun K f=>?_) (AllReadyH.cons (o:=⟨some 13,.alloc 43,0,_,_,none⟩) rfl (fun K f=>?_) AllReadyH.nil);rotate_left
 · go_simp;have m:=U0 (Y4 D [vO,vN,vN] 43);have hB:=b.size
   replace b:=X5 b (P6 (w:=D) (o:=.cells #[vO,vN,vN] 43))
   refine E8 f (t.out _ b) fun hH=>?_;clear f K;generalize D.alloc (.cells #[vO,vN,vN] 43)=U at*;refine rq 7 fun K f=>?_;go_simp;refine (L _ b).mono ?_;rintro e v2 ⟨⟨n,r,rfl,hr⟩,l⟩;have R:=U0 hr;clear hr
   replace m:=U0 (m.out.below l m.out.lt)
   replace b:=X5 b l
   clear l;go_simp;refine E8 f (t.out _ b) fun hH=>?_;clear f K;refine Y0 8 ?_;refine Y0 9 ?_;refine Y0 10 ?_;refine rq 12 fun K f=>?_;refine t_ rfl 43 _ _ rfl (B:=D.heap.size) (j:=0) rfl (vs:=[vI W,vL (some (aA n 0)) s.length r,vL a2 P.length c2]) rfl m.out H8 (o8 rfl) Y2 ?_;intro E z x;have RE:=o7 R.out (fun q F=>x.block q (fun e=>absurd (Y8 (N8 R.out F) (e▸eu m.out)) o6))
   replace b:=b.trans (x.below hB)
   refine E8 f (t.out _ b) fun hH=>?_;clear f K;refine Y0 13 ?_;refine wdn ?_;exact I _ _ _ _ _ _ _ _ _ _ _ n r D.heap.size E b hB z.lt z.blk RE
 go_simp;refine (L _ b).mono ?_;rintro e v2 ⟨⟨n,r,rfl,hr⟩,l⟩;have R:=U0 hr;clear hr
 replace b:=X5 b l
 clear l;go_simp;refine E8 f (t.out _ b) fun hH=>?_;clear f K;refine Y0 8 ?_;refine Y0 9 ?_;refine Y0 10 ?_;refine rq 11 fun K f=>?_;go_simp;have m:=U0 (Y4 v2 [vO,vN,vN] 43);have hB:=b.size
 replace R:=U0 (own_below R.out (P6 (w:=v2) (o:=.cells #[vO,vN,vN] 43)))
 replace b:=X5 b (P6 (w:=v2) (o:=.cells #[vO,vN,vN] 43))
 refine E8 f (t.out _ b) fun hH=>?_;clear f K;generalize v2.alloc (.cells #[vO,vN,vN] 43)=U at*;refine rq 12 fun K f=>?_;refine t_ rfl 43 _ _ rfl (B:=v2.heap.size) (j:=0) rfl (vs:=[vI W,vL (some (aA n 0)) s.length r,vL a2 P.length c2]) rfl m.out H8 (o8 rfl) Y2 ?_;intro E z x;have RE:=o7 R.out (fun q F=>x.block q (fun e=>absurd (Y8 (N8 R.out F) (e▸eu m.out)) o6))
 replace b:=b.trans (x.below hB)
 refine E8 f (t.out _ b) fun hH=>?_;clear f K;refine Y0 13 ?_;refine wdn ?_;exact I _ _ _ _ _ _ _ _ _ _ _ n r v2.heap.size E b hB z.lt z.blk RE
theorem r14 {d2 Z Y:Value} {z:BY} {r:LB}  (J:D5 u A [.int .i64 W,.slice (some ⟨g,0,none⟩) T.length c,.slice a2 P.length c2]) (H:A<u.heap.size) (X:lb<u.heap.size) (z3:u.cell? ⟨lb,0,none⟩=some (.int .i64 cd)) (z4:u.cell? ⟨lb,1,none⟩=some (.string tx)) (hf:XA cd tx=z) (O:tx.size<=1048700) (hfm:z.size<=1048700) (hA:Wh W T) (hl:T.length<=1000000) (U:∀ i,(T.getD i ByteArray.empty).size<=1048700) (V:Eb W z T=(r,b')) (ho:u.ownsRow N 9 1 (.slice (some ⟨g,0,none⟩) T.length c) T.length (T.map Value.string)) (hN:N<=u.heap.size)
 (hQ:∀ (d:Nat) v c (a:Act) w,Q (.panic c) (a.put (some d) v) w->Q (.panic c) a w) (F:∀ (y60 y61 y62 y63 y64 y65 y66:Value) (m n B:Nat) (E:World),Bw u E->u.heap.size<=B->B<E.heap.size->D5 E B [.int .i64 W,.slice (some ⟨m,0,none⟩) r.length n,.slice a2 P.length c2]->E.ownsRow N 9 1 (.slice (some ⟨m,0,none⟩) r.length n) r.length (r.map Value.string)->K { tmps:=#[d0,d1,d2,d3,d4,d5,d6,.pointer (some ⟨lb,0,none⟩),d8,d9,.pointer (some ⟨A,0,none⟩),d11,d12,d13,d14,.pointer (some ⟨B,0,none⟩),.bool b',d17,d18,d19,d20,d21,d22,d23,d24,d25,d26,d27,d28,d29,d30,d31,d32,d33,d34,d35,d36,d37,d38,d39,d40,d41,d42,d43,d44,d45,d46,d47,d48,d49,d50,d51,d52,d53,d54,d55,d56,d57,d58,d59,y60,y61,y62,y63,y64,y65,y66,d67,d68,d69,d70,d71,d72,d73,d74,d75,d76,d77,d78,d79,d80,d81,d82,d83,d84,d85,d86,d87,d88,d89,d90,d91,d92,d93,d94,d95,d96,d97,Z,Y,d100,d101,d102,d103,d104,d105,d106,d107,d108,d109,d110,d111,d112,d113,d114,d115,d116,d117],defers:=[] } E):
 Code.wp prog (Code.region 14 #[⟨some 61,.load 43 (.tmp 10),43, "l5_store.go:187",#[],none⟩,⟨some 62,.load 103 (.tmp 7),103, "l5_store.go:187",#[],none⟩,⟨some 63,.call ⟨.value (.func 197),#[.tmp 62],#[103]⟩,9, "l5_store.go:187",#[⟨1,.data⟩],none⟩,⟨some 64,.call ⟨.value (.func 196),#[.tmp 61,.tmp 63],#[43,9]⟩,273, "l5_store.go:187",#[⟨0,.data⟩,⟨2,.data⟩,⟨2,.chain⟩],none⟩,⟨some 60,.move (.tmp 64),273, "l5_store.go:187",#[⟨3,.data⟩],none⟩,⟨some 65,.extract (.tmp 60) 0,43, "l5_store.go:187",#[⟨4,.data⟩],none⟩,⟨some 66,.extract (.tmp 60) 1,4, "l5_store.go:187",#[⟨4,.data⟩,⟨8,.gcOnly .lateStores⟩],none⟩,⟨some 15,.alloc 43,0, "l5_store.go:187",#[],none⟩,⟨none,.store 43 (.tmp 15) (.tmp 65),0, "l5_store.go:187",#[⟨7,.data⟩,⟨5,.data⟩,⟨3,.chain⟩,⟨0,.phase⟩,⟨1,.phase⟩,⟨2,.phase⟩,⟨3,.phase⟩,⟨4,.phase⟩,⟨5,.phase⟩,⟨6,.textOnly .lateStores⟩,⟨7,.phase⟩],none⟩,⟨some 16,.assign (.tmp 66),4, "l5_store.go:187",#[⟨6,.data⟩,⟨8,.chain⟩,⟨0,.phase⟩,⟨1,.phase⟩,⟨2,.phase⟩,⟨3,.phase⟩,⟨4,.phase⟩,⟨5,.phase⟩,⟨6,.phase⟩,⟨7,.phase⟩,⟨8,.phase⟩],none⟩] true) (Exit.then K Q) { tmps:=#[d0,d1,d2,d3,d4,d5,d6,.pointer (some ⟨lb,0,none⟩),d8,d9,.pointer (some ⟨A,0,none⟩),d11,d12,d13,d14,d15,d16,d17,d18,d19,d20,d21,d22,d23,d24,d25,d26,d27,d28,d29,d30,d31,d32,d33,d34,d35,d36,d37,d38,d39,d40,d41,d42,d43,d44,d45,d46,d47,d48,d49,d50,d51,d52,d53,d54,d55,d56,d57,d58,d59,d60,d61,d62,d63,d64,d65,d66,d67,d68,d69,d70,d71,d72,d73,d74,d75,d76,d77,d78,d79,d80,d81,d82,d83,d84,d85,d86,d87,d88,d89,d90,d91,d92,d93,d94,d95,d96,d97,Z,Y,d100,d101,d102,d103,d104,d105,d106,d107,d108,d109,d110,d111,d112,d113,d114,d115,d116,d117],defers:=[] } u:=by
 have HF:=U0 hf;have s:Hid (∀ v,Bw u v->v.cell? (aA A 0)=some (vI W)/\v.cell? (aA A 1)=some (vL (some (aA g 0)) T.length c)/\v.cell? (aA A 2)=some (vL a2 P.length c2)/\v.cell? (aA lb 0)=some (vI cd)/\v.cell? (aA lb 1)=some (vS tx)):=fun v hv=>⟨(hv.cell (p:=(aA A 0)) H).trans (J 0 _ rfl),(hv.cell (p:=(aA A 1)) H).trans (J 1 _ rfl),(hv.cell (p:=(aA A 2)) H).trans (J 2 _ rfl),(hv.cell (p:=(aA lb 0)) X).trans z3,(hv.cell (p:=(aA lb 1)) X).trans z4⟩;have I:∀ v,Bw u v->Calls prog 196 #[.agg #[.int .i64 W,.slice (some ⟨g,0,none⟩) T.length c,.slice a2 P.length c2],.string z] v fun e w'=>(∃ m n,e=.returned (.tuple #[.agg #[vI W,vL (some (aA m 0)) r.length n,vL a2 P.length c2],.bool b'])/\w'.ownsRow N 9 1 (vL (some (aA m 0)) r.length n) r.length (r.map Value.string))/\Bw v w':=fun v hv=>by
  have h:=c196 W T z N g c P.length c2 a2 v hA hl U hfm (own_below ho hv) (G7 hN hv.size);rw [V] at h;exact h
 clear hf V hA U ho;have b:Bw u u.drew:=(Z4 _ _).drew;refine wp_region_held_drew (S:=fun u=>u.cell? (aA A 0)=some (vI W)/\u.cell? (aA A 1)=some (vL (some (aA g 0)) T.length c)/\u.cell? (aA A 2)=some (vL a2 P.length c2)/\u.cell? (aA lb 0)=some (vI cd)/\u.cell? (aA lb 1)=some (vS tx)) Y2 (s.out _ b) fun hH=>?_;generalize u.drew=y at*;refine Y0 0 ?_;refine Y0 1 ?_;refine wpAnyH_ready (rs:=[2,7]) Y2 X4 ?_;refine AllReadyH.cons (o:=⟨some 63,.call ⟨.value (.func 197),#[.tmp 62],#[103]⟩,9,_,_,none⟩) rfl (fun K f=>?_) (AllReadyH.cons (o:=⟨some 15,.alloc 43,0,_,_,none⟩) rfl (fun K f=>?_) AllReadyH.nil);rotate_left
 · go_simp;have l:=U0 (Y4 y [vO,vN,vN] 43);have hB:=b.size
   replace b:=X5 b (P6 (w:=y) (o:=.cells #[vO,vN,vN] 43))
   refine E8 f (s.out _ b) fun hH=>?_;clear f K;generalize y.alloc (.cells #[vO,vN,vN] 43)=L at*;refine rq 2 fun K f=>?_;go_simp;refine (JJ cd tx z _ HF.out O).mono ?_;rintro e C ⟨rfl,k⟩
   replace l:=U0 (l.out.below k l.out.lt)
   replace b:=X5 b k
   clear k;go_simp;refine E8 f (s.out _ b) fun hH=>?_;clear f K;refine rq 3 fun K f=>?_;go_simp;refine (I _ b).mono ?_;rintro e v2 ⟨⟨m,n,rfl,hr⟩,k⟩;have R:=U0 hr;clear hr
   replace l:=U0 (l.out.below k l.out.lt)
   replace b:=X5 b k
   clear k;go_simp;refine E8 f (s.out _ b) fun hH=>?_;clear f K;refine Y0 4 ?_;refine Y0 5 ?_;refine Y0 6 ?_;refine rq 8 fun K f=>?_;refine t_ rfl 43 _ _ rfl (B:=y.heap.size) (j:=0) rfl (vs:=[vI W,vL (some (aA m 0)) r.length n,vL a2 P.length c2]) rfl l.out H8 (o8 rfl) Y2 ?_;intro E x t;have RE:=o7 R.out (fun q D=>t.block q (fun e=>absurd (Y8 (N8 R.out D) (e▸eu l.out)) o6))
   replace b:=b.trans (t.below hB)
   refine E8 f (s.out _ b) fun hH=>?_;clear f K;refine Y0 9 ?_;refine wdn ?_;exact F _ _ _ _ _ _ _ m n y.heap.size E b hB x.lt x.blk RE
 go_simp;refine (JJ cd tx z _ HF.out O).mono ?_;rintro e C ⟨rfl,k⟩
 replace b:=X5 b k
 clear k;go_simp;refine E8 f (s.out _ b) fun hH=>?_;clear f K;refine wpAnyH_ready (rs:=[3,7]) Y2 X4 ?_;refine AllReadyH.cons (o:=⟨some 64,.call ⟨.value (.func 196),#[.tmp 61,.tmp 63],#[43,9]⟩,273,_,_,none⟩) rfl (fun K f=>?_) (AllReadyH.cons (o:=⟨some 15,.alloc 43,0,_,_,none⟩) rfl (fun K f=>?_) AllReadyH.nil);rotate_left
 · go_simp;have l:=U0 (Y4 C [vO,vN,vN] 43);have hB:=b.size
   replace b:=X5 b (P6 (w:=C) (o:=.cells #[vO,vN,vN] 43))
   refine E8 f (s.out _ b) fun hH=>?_;clear f K;generalize C.alloc (.cells #[vO,vN,vN] 43)=L at*;refine rq 3 fun K f=>?_;go_simp;refine (I _ b).mono ?_;rintro e v2 ⟨⟨m,n,rfl,hr⟩,k⟩;have R:=U0 hr;clear hr
   replace l:=U0 (l.out.below k l.out.lt)
   replace b:=X5 b k
   clear k;go_simp;refine E8 f (s.out _ b) fun hH=>?_;clear f K;refine Y0 4 ?_;refine Y0 5 ?_;refine Y0 6 ?_;refine rq 8 fun K f=>?_;refine t_ rfl 43 _ _ rfl (B:=C.heap.size) (j:=0) rfl (vs:=[vI W,vL (some (aA m 0)) r.length n,vL a2 P.length c2]) rfl l.out H8 (o8 rfl) Y2 ?_;intro E x t;have RE:=o7 R.out (fun q D=>t.block q (fun e=>absurd (Y8 (N8 R.out D) (e▸eu l.out)) o6))
   replace b:=b.trans (t.below hB)
   refine E8 f (s.out _ b) fun hH=>?_;clear f K;refine Y0 9 ?_;refine wdn ?_;exact F _ _ _ _ _ _ _ m n C.heap.size E b hB x.lt x.blk RE
 go_simp;refine (I _ b).mono ?_;rintro e v2 ⟨⟨m,n,rfl,hr⟩,k⟩;have R:=U0 hr;clear hr
 replace b:=X5 b k
 clear k;go_simp;refine E8 f (s.out _ b) fun hH=>?_;clear f K;refine Y0 4 ?_;refine Y0 5 ?_;refine Y0 6 ?_;refine rq 7 fun K f=>?_;go_simp;have l:=U0 (Y4 v2 [vO,vN,vN] 43);have hB:=b.size
 replace R:=U0 (own_below R.out (P6 (w:=v2) (o:=.cells #[vO,vN,vN] 43)))
 replace b:=X5 b (P6 (w:=v2) (o:=.cells #[vO,vN,vN] 43))
 refine E8 f (s.out _ b) fun hH=>?_;clear f K;generalize v2.alloc (.cells #[vO,vN,vN] 43)=L at*;refine rq 8 fun K f=>?_;refine t_ rfl 43 _ _ rfl (B:=v2.heap.size) (j:=0) rfl (vs:=[vI W,vL (some (aA m 0)) r.length n,vL a2 P.length c2]) rfl l.out H8 (o8 rfl) Y2 ?_;intro E x t;have RE:=o7 R.out (fun q D=>t.block q (fun e=>absurd (Y8 (N8 R.out D) (e▸eu l.out)) o6))
 replace b:=b.trans (t.below hB)
 refine E8 f (s.out _ b) fun hH=>?_;clear f K;refine Y0 9 ?_;refine wdn ?_;exact F _ _ _ _ _ _ _ m n v2.heap.size E b hB x.lt x.blk RE
