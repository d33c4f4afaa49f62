import Derived.Test.YtdjaajjndfbpmaaGreatDoorDB
set_option linter.unusedVariables false
set_option maxHeartbeats 8000000
set_option maxRecDepth 100000
namespace Go.Proofs.YtdjaajjndfbpmaaGreatDoor
open Proofs.Tryz
open Go.RowKit
open G.T (lt)
variable {l:List ByteArray} {B j:Nat} {v:Value} {u w:World}
theorem Tw:Inf prog 9 1:=Ui U2
theorem qI (h:(We l)[j]?=some v):j<l.length/\v=.string (l.getD j ⟨#[]⟩):=by
 unfold We at h;rw [Kb] at h;obtain ⟨x,h1,h2⟩:=Uo.1 h;exact ⟨(Jd.1 h1).1,by rw [<- h2];simp [List.getD,h1]⟩
theorem Tx {a:Option Addr} (g:Nr w a l) (s:Below w.heap.size w u) {i m:Nat} (d:i+m<=l.length) (cap c:Nat) (r:m=0\/cap≠i):Src u (.slice (if cap=i then a else a.map (·.add i)) m c) 1 m (We ((l.drop i).take m)):=by
 cases a with
 | none=>
  have n:l=[]:=by
   rcases g with h | ⟨b,f,h,_⟩
   · exact h
   cases h
  subst n;have:m=0:=by simp at d;omega
  subst this;exact .inl ⟨⟨c,X0⟩,rfl,rfl⟩
 | some ad=>
  by_cases h0:m=0
  · subst h0
    refine .inr ⟨if cap=i then ad else ad.add i,c,?_,by simp [We],fun j v e=>by simp [We] at e⟩;split <;> rfl
  have k:=r.resolve_left h0;rw [R3 k];refine .inr ⟨ad.add i,c,rfl,by simp [We];omega,fun j v e=>?_⟩;obtain ⟨q,rfl⟩:=qI e;have o:j<m:=by simp at q;omega
  rcases g with h | ⟨b,f,h1,h2,h3⟩
  · rw [h] at d;simp at d;omega
  obtain rfl:=j6 h1;have:=(s.cell (p:=⟨b,f+(i+j),none⟩) h2).trans (h3 (i+j) O0);rw [Qj,Qj,xk,this]
  congr 2
  simp only [List.getD,Mo,zq,Y3 o]
theorem Na {u':World} (h:Below B w u) (g:u.grownBy u' v.ownBlock) (hz:B<=u.heap.size) (hv:∀ k,v.ownBlock=some k->B<=k):Below B w u':=
 ⟨g.os.trans h.os,g.tape.trans h.tape,g.output.trans h.output,Z4 h.size g.size,fun k a=>(g.block k O0 (fun e=>by have:=hv k e.symm;omega)).trans (h.block k a)⟩
theorem zK (base:Nat) (a:Option Addr) (cap k:Nat) (l:List ByteArray) (s:ByteArray) (w u:World) (u2 u3 u4 u6 u7 u8 u9 u10 u11 u12 u13 u14 u15 u16 u17 u18 u19 u20 u21 u22 u23 u24 u25 u26 u27 u28 u29 u30 u31 u32 u33 u40 u44:Value) (A f i:Value) (g6 n:Nat) (L:Array Bool) (X:L=#[true,true,true,true,true,true,true,false,true,true,true,false,false]) {Q:Exit->Act->World->Prop} (hQ:∀ c (a:Act) (d:Option Tmp) (v:Value) w,Q (.panic c) (a.put d v) w->Q (.panic c) a w) (hk:k<=l.length) (hl:l.length<=1000) (R:Hid (u.ownsRow base 9 1 f k (We (l.take k)))) (C:Hid (Cl u g6 9 [.string s])) (SR2:Hid (∀ u,Below w.heap.size w u->Src u i 1 (l.length - k) (We (l.drop k)))) (m:Below w.heap.size w u) (W:base<=w.heap.size) (hv:Hid (∀ k,f.ownBlock=some k->w.heap.size<=k))
 (Y:∀ (U S P O N J I H F E D B v':Value) (w':World),w'.ownsRow base 9 1 v' (l.take k++[s]++l.drop k).length (We (l.take k++[s]++l.drop k))->Below w.heap.size w w'->Q .normal { tmps:=#[.slice a l.length cap,.string s,u2,u3,v',.int .i64 (k:Int),u6,u7,u8,u9,u10,u11,u12,u13,u14,u15,u16,u17,u18,u19,u20,u21,u22,u23,u24,u25,u26,u27,u28,u29,u30,u31,u32,U,S,P,O,N,J,I,H,F,E,D,B],defers:=[] } w'):
 wpAnyH prog .any #[⟨some 33,.buildSlice 79 0 #[],79, "l4_want.go:153",#[],none⟩,⟨some 34,.move (.tmp 0),79, "l4_want.go:153",#[],none⟩,⟨some 35,.move (.tmp 5),3, "l4_want.go:153",#[],none⟩,⟨some 36,.slice 79 (.tmp 34) none (some (.tmp 35)) none,79, "l4_want.go:153",#[⟨1,.data⟩,⟨2,.data⟩],none⟩,⟨some 37,.call ⟨.builtin .append,#[.tmp 33,.tmp 36],#[79,79]⟩,79, "l4_want.go:153",#[⟨0,.data⟩,⟨3,.data⟩],none⟩,⟨some 38,.move (.tmp 1),9, "l4_want.go:153",#[],none⟩,⟨some 39,.buildSlice 79 1 #[(0,.tmp 38)],79, "l4_want.go:153",#[⟨5,.data⟩],none⟩,⟨some 40,.call ⟨.builtin .append,#[.tmp 37,.tmp 39],#[79,79]⟩,79, "l4_want.go:153",#[⟨4,.data⟩,⟨6,.data⟩,⟨4,.chain⟩],none⟩,⟨some 41,.move (.tmp 0),79, "l4_want.go:153",#[],none⟩,⟨some 42,.move (.tmp 5),3, "l4_want.go:153",#[],none⟩,⟨some 43,.slice 79 (.tmp 41) (some (.tmp 42)) none none,79, "l4_want.go:153",#[⟨8,.data⟩,⟨9,.data⟩],none⟩,⟨some 44,.call ⟨.builtin .append,#[.tmp 40,.tmp 43],#[79,79]⟩,79, "l4_want.go:153",#[⟨7,.data⟩,⟨10,.data⟩,⟨7,.chain⟩],none⟩,⟨some 4,.assign (.tmp 44),79, "l4_want.go:153",#[⟨11,.data⟩,⟨11,.chain⟩,⟨0,.phase⟩,⟨1,.phase⟩,⟨2,.phase⟩,⟨3,.phase⟩,⟨4,.phase⟩,⟨5,.phase⟩,⟨6,.phase⟩,⟨7,.phase⟩,⟨8,.phase⟩,⟨9,.phase⟩,⟨10,.phase⟩,⟨11,.phase⟩],none⟩] Q (fun _=>True) (n+3) L { tmps:=#[.slice a l.length cap,.string s,u2,u3,u4,.int .i64 (k:Int),u6,u7,u8,u9,u10,u11,u12,u13,u14,u15,u16,u17,u18,u19,u20,u21,u22,u23,u24,u25,u26,u27,u28,u29,u30,u31,u32,u33,.slice a l.length cap,.int .i64 (k:Int),A,f,.string s,.slice (some ⟨g6,0,none⟩) 1 1,u40,.slice a l.length cap,.int .i64 (k:Int),i,u44],defers:=[] } u:=by
 subst X;have hb2:=m.size;refine rq 7 fun K b=>?_;refine z_ rfl _ _ 79 rfl base 9 1 underlying79 Tw K3 f k (We (l.take k)) rfl R.out (.slice (some ⟨g6,0,none⟩) 1 1) 1 [.string s] rfl (.inr ⟨⟨g6,0,none⟩,1,rfl,rfl,za C.out⟩) (by intro u p;simp at p;subst p;rfl) O0 O0 ?_;intro o y t g1 q;have g:=Na m g1 m.size hv.out;have V:Hid (∀ k,o.ownBlock=some k->w.heap.size<=k):=fun k e=>by
  rcases q with h | h
  · exact hv.out k (h▸e)
  rw [h] at e;have:=j6 e;omega
 have R1:=Q0 t;clear t g1 q;refine Z6 b trivial fun j=>?_;clear b K;refine rq 11 fun K b=>?_;refine z_ rfl _ _ 79 rfl base 9 1 underlying79 Tw K3 o (k+1) (We (l.take k)++[.string s]) rfl R1.out i (l.length - k) (We (l.drop k)) rfl (SR2.out y g) (Bp _) O0 (Z4 W g.size) ?_;intro z x r g2 at2;have L2:=Na g g2 g.size V.out;have R2:Hid (x.ownsRow base 9 1 z (l.take k++[s]++l.drop k).length (We (l.take k++[s]++l.drop k))):=by
  show World.ownsRow _ _ _ _ _ _ _;have e1:(l.take k++[s]++l.drop k).length=k+1+(l.length - k):=J4;have Z:We (l.take k++[s]++l.drop k)=We (l.take k)++[.string s]++We (l.drop k):=by simp [We]
  rw [e1,Z];exact r
 clear r g2 at2;clear j;refine b.out _ _ trivial fun j=>?_;clear b K;refine I4 12 j ?_;refine a_ ?_;exact Y _ _ _ _ _ _ _ _ _ _ _ _ _ _ R2.out L2
theorem IP (base:Nat) (a:Option Addr) (cap k:Nat) (l:List ByteArray) (s:ByteArray) (w:World) (u2 u3 u4 u6 u7 u8 u9 u10 u11 u12 u13 u14 u15 u16 u17 u18 u19 u20 u21 u22 u23 u24 u25 u26 u27 u28 u29 u30 u31 u32 u33 u34 u35 u36 u37 u38 u39 u40 u41 u42 u43 u44:Value) {Q:Exit->Act->World->Prop} (hQ:∀ c (a:Act) (d:Option Tmp) (v:Value) w,Q (.panic c) (a.put d v) w->Q (.panic c) a w) (R:k<=l.length) (P:l.length<=1000) (hc:l.length<=cap) (Y:Hid (Nr w a l)) (A:base<=w.heap.size)
 (U:∀ (t33 t34 t35 t36 t37 t38 t39 t40 t41 t42 t43 t44 v':Value) (w':World),w'.ownsRow base 9 1 v' (l.take k++[s]++l.drop k).length (We (l.take k++[s]++l.drop k))->Below w.heap.size w w'->Q .normal { tmps:=#[.slice a l.length cap,.string s,u2,u3,v',.int .i64 (k:Int),u6,u7,u8,u9,u10,u11,u12,u13,u14,u15,u16,u17,u18,u19,u20,u21,u22,u23,u24,u25,u26,u27,u28,u29,u30,u31,u32,t33,t34,t35,t36,t37,t38,t39,t40,t41,t42,t43,t44],defers:=[] } w'):
 (Code.region 6 #[⟨some 33,.buildSlice 79 0 #[],79, "l4_want.go:153",#[],none⟩,⟨some 34,.move (.tmp 0),79, "l4_want.go:153",#[],none⟩,⟨some 35,.move (.tmp 5),3, "l4_want.go:153",#[],none⟩,⟨some 36,.slice 79 (.tmp 34) none (some (.tmp 35)) none,79, "l4_want.go:153",#[⟨1,.data⟩,⟨2,.data⟩],none⟩,⟨some 37,.call ⟨.builtin .append,#[.tmp 33,.tmp 36],#[79,79]⟩,79, "l4_want.go:153",#[⟨0,.data⟩,⟨3,.data⟩],none⟩,⟨some 38,.move (.tmp 1),9, "l4_want.go:153",#[],none⟩,⟨some 39,.buildSlice 79 1 #[(0,.tmp 38)],79, "l4_want.go:153",#[⟨5,.data⟩],none⟩,⟨some 40,.call ⟨.builtin .append,#[.tmp 37,.tmp 39],#[79,79]⟩,79, "l4_want.go:153",#[⟨4,.data⟩,⟨6,.data⟩,⟨4,.chain⟩],none⟩,⟨some 41,.move (.tmp 0),79, "l4_want.go:153",#[],none⟩,⟨some 42,.move (.tmp 5),3, "l4_want.go:153",#[],none⟩,⟨some 43,.slice 79 (.tmp 41) (some (.tmp 42)) none none,79, "l4_want.go:153",#[⟨8,.data⟩,⟨9,.data⟩],none⟩,⟨some 44,.call ⟨.builtin .append,#[.tmp 40,.tmp 43],#[79,79]⟩,79, "l4_want.go:153",#[⟨7,.data⟩,⟨10,.data⟩,⟨7,.chain⟩],none⟩,⟨some 4,.assign (.tmp 44),79, "l4_want.go:153",#[⟨11,.data⟩,⟨11,.chain⟩,⟨0,.phase⟩,⟨1,.phase⟩,⟨2,.phase⟩,⟨3,.phase⟩,⟨4,.phase⟩,⟨5,.phase⟩,⟨6,.phase⟩,⟨7,.phase⟩,⟨8,.phase⟩,⟨9,.phase⟩,⟨10,.phase⟩,⟨11,.phase⟩],none⟩] true).wp prog Q { tmps:=#[.slice a l.length cap,.string s,u2,u3,u4,.int .i64 (k:Int),u6,u7,u8,u9,u10,u11,u12,u13,u14,u15,u16,u17,u18,u19,u20,u21,u22,u23,u24,u25,u26,u27,u28,u29,u30,u31,u32,u33,u34,u35,u36,u37,u38,u39,u40,u41,u42,u43,u44],defers:=[] } w:=by
 obtain ⟨C,hs1,W⟩:∃ v,(∀ u,(Instr.slice 79 (.slice a l.length cap) none (some (.int .i64 (k:Int))) none).run prog u=.ok v u)/\Hid (∀ u,Below w.heap.size w u->Src u v 1 k (We (l.take k))):=by
  refine ⟨.slice (if cap=0 then a else a.map (·.add 0)) k cap,fun u=>?_,fun u O=>?_⟩
  · rw [run_slice_h u 79 a l.length cap U2 .i64 k O0 O0,show prog.elem 79=9 from by kernel_rfl,sizeOf9]
    simp [sliced,Result.andThen]
  exact Tx Y.out O (i:=0) (m:=k) O0 cap cap O0
 obtain ⟨L,hs2,V⟩:∃ v,(∀ u,(Instr.slice 79 (.slice a l.length cap) (some (.int .i64 (k:Int))) none none).run prog u=.ok v u)/\Hid (∀ u,Below w.heap.size w u->Src u v 1 (l.length - k) (We (l.drop k))):=by
  refine ⟨.slice (if cap=k then a else a.map (·.add k)) (l.length - k) (cap - k),fun u=>?_,fun u O=>?_⟩
  · rw [run_slice_l u 79 a l.length cap U2 .i64 k O0 O0,show prog.elem 79=9 from by kernel_rfl,sizeOf9]
    simp [sliced,Result.andThen]
  have:=Tx Y.out O (i:=k) (m:=l.length - k) O0 cap (cap - k) O0;rw [E_ X0] at this;exact this
 refine F7 (S:=fun _=>True) U2 trivial fun j=>?_;obtain ⟨f,N⟩:∃ x:World,x=w.drew:=⟨_,rfl⟩;rw [<- N];have J:Below w.heap.size w f:=by rw [N];exact (F4 _ w).drew
 clear N;refine tq 1 j ?_;refine tq 2 j ?_;refine tq 3 j ?_;refine tq 5 j ?_;refine tq 8 j ?_;refine tq 9 j ?_;refine I4 10 j ?_;refine Ma (rs:=[0,6]) U2 X0 (x8 (o:=⟨some 33,.buildSlice 79 0 #[],79,_,_,none⟩) rfl (fun K g=>?_) (x8 (o:=⟨some 39,.buildSlice 79 1 #[(0,.tmp 38)],79,_,_,none⟩) rfl (fun K g=>?_) Ra))
 · go_simp
   obtain ⟨b,y⟩:∃ x:World,x=f.alloc (.cells #[] 9):=⟨_,rfl⟩;rw [<- y];have X:Below f.heap.size f b:=by rw [y];exact bA
   have D:Hid (b.ownsRow base 9 1 (.slice (some ⟨f.heap.size,0,none⟩) 0 0) 0 []):=by show World.ownsRow _ _ _ _ _ _ _;rw [y];exact D5 (Gm f #[] 0 P9 (I5 _) rfl) (Z4 A J.size)
   have z:=bT J X;have z33:w.heap.size<=f.heap.size:=J.size;have y33:f.heap.size<b.heap.size:=by rw [y];simp
   clear y;clear j;refine Z6 g trivial fun j=>?_;clear g K;refine Ma (rs:=[4,6]) U2 X0 (x8 (o:=⟨some 37,.call ⟨.builtin .append,#[.tmp 33,.tmp 36],#[79,79]⟩,79,_,_,none⟩) rfl (fun K g=>?_) (x8 (o:=⟨some 39,.buildSlice 79 1 #[(0,.tmp 38)],79,_,_,none⟩) rfl (fun K g=>?_) Ra))
   · refine z_ rfl _ _ 79 rfl base 9 1 underlying79 Tw K3 (.slice (some ⟨f.heap.size,0,none⟩) 0 0) 0 [] rfl D.out C k (We (l.take k)) rfl (W.out b z) (Bp _) O0 (Z4 A z.size) ?_
     intro v37 n O4 (g4:b.grownBy n (some f.heap.size)) at4;have p:=Na (v:=.slice (some ⟨f.heap.size,0,none⟩) 0 0) z g4 z.size (fun k e=>by have:=j6 e;have:f.heap.size=k:=this;omega);have B:Hid (n.ownsRow base 9 1 v37 k (We (l.take k))):=by have:=O4;rw [R7,Ba] at this;exact this
     have E:Hid (∀ k,v37.ownBlock=some k->w.heap.size<=k):=fun k e=>by
      rcases at4 with h | h
      · rw [h] at e;have:f.heap.size=k:=j6 e;omega
      rw [h] at e;have:=j6 e;have:=z.size;omega
     clear O4 g4 at4;clear j;refine Z6 g trivial fun j=>?_;clear g K;refine rq 6 fun K g=>?_;go_simp;obtain ⟨r,I⟩:∃ x:World,x=n.alloc (.cells #[.string s] 9):=⟨_,rfl⟩;rw [<- I];have Z:Below n.heap.size n r:=by rw [I];exact bA
     have q:Hid (Cl r n.heap.size 9 [.string s]):=by show Cl _ _ _ _;rw [I];exact U1 n _ 9
     have F:=bT p Z;clear I;have B:=Q0 (ownsRow_below B.out Z);clear j;refine Z6 g trivial fun j=>?_;clear g K;exact zK base a cap k l s w r _ _ _ _ _ _ _ _ _ _ _ _ _ _ _ _ _ _ _ _ _ _ _ _ _ _ _ _ _ _ _ _ _ C _ L n.heap.size _ _ U2 hQ R P B q V F A E U
   go_simp;obtain ⟨n,t⟩:∃ x:World,x=b.alloc (.cells #[.string s] 9):=⟨_,rfl⟩;rw [<- t];have H:Below b.heap.size b n:=by rw [t];exact bA
   have q:Hid (Cl n b.heap.size 9 [.string s]):=by show Cl _ _ _ _;rw [t];exact U1 b _ 9
   have p:=bT z H;clear t;have D:=Q0 (ownsRow_below D.out H);clear j;refine Z6 g trivial fun j=>?_;clear g K;refine rq 4 fun K g=>?_;refine z_ rfl _ _ 79 rfl base 9 1 underlying79 Tw K3 (.slice (some ⟨f.heap.size,0,none⟩) 0 0) 0 [] rfl D.out C k (We (l.take k)) rfl (W.out n p) (Bp _) O0 (Z4 A p.size) ?_;intro v37 r O4 (g4:n.grownBy r (some f.heap.size)) at4;have F:=Na (v:=.slice (some ⟨f.heap.size,0,none⟩) 0 0) p g4 p.size (fun k e=>by have:=j6 e;have:f.heap.size=k:=this;omega);have B:Hid (r.ownsRow base 9 1 v37 k (We (l.take k))):=by have:=O4;rw [R7,Ba] at this;exact this
   have E:Hid (∀ k,v37.ownBlock=some k->w.heap.size<=k):=fun k e=>by
    rcases at4 with h | h
    · rw [h] at e;have:f.heap.size=k:=j6 e;omega
    rw [h] at e;have:=j6 e;have:=p.size;omega
   have q:=Q0 (q.out.gb g4 (by intro e;have:b.heap.size=f.heap.size:=j6 e;omega));clear O4 g4 at4;clear j;refine Z6 g trivial fun j=>?_;clear g K;exact zK base a cap k l s w r _ _ _ _ _ _ _ _ _ _ _ _ _ _ _ _ _ _ _ _ _ _ _ _ _ _ _ _ _ _ _ _ _ C _ L b.heap.size _ _ U2 hQ R P B q V F A E U
 go_simp;obtain ⟨b,y⟩:∃ x:World,x=f.alloc (.cells #[.string s] 9):=⟨_,rfl⟩;rw [<- y];have X:Below f.heap.size f b:=by rw [y];exact bA
 have q:Hid (Cl b f.heap.size 9 [.string s]):=by show Cl _ _ _ _;rw [y];exact U1 f _ 9
 have z:=bT J X;clear y;clear j;refine Z6 g trivial fun j=>?_;clear g K;refine rq 0 fun K g=>?_;go_simp;obtain ⟨n,t⟩:∃ x:World,x=b.alloc (.cells #[] 9):=⟨_,rfl⟩;rw [<- t];have H:Below b.heap.size b n:=by rw [t];exact bA
 have D:Hid (n.ownsRow base 9 1 (.slice (some ⟨b.heap.size,0,none⟩) 0 0) 0 []):=by show World.ownsRow _ _ _ _ _ _ _;rw [t];exact D5 (Gm b #[] 0 P9 (I5 _) rfl) (Z4 A z.size)
 have p:=bT z H;have z33:w.heap.size<=b.heap.size:=z.size;have y33:b.heap.size<n.heap.size:=by rw [t];simp
 clear t;have z61:f.heap.size<b.heap.size:=q.out.lt;have q:=Q0 (q.out.below H q.out.lt);clear j;refine Z6 g trivial fun j=>?_;clear g K;refine rq 4 fun K g=>?_;refine z_ rfl _ _ 79 rfl base 9 1 underlying79 Tw K3 (.slice (some ⟨b.heap.size,0,none⟩) 0 0) 0 [] rfl D.out C k (We (l.take k)) rfl (W.out n p) (Bp _) O0 (Z4 A p.size) ?_;intro v37 r O4 (g4:n.grownBy r (some b.heap.size)) at4;have F:=Na (v:=.slice (some ⟨b.heap.size,0,none⟩) 0 0) p g4 p.size (fun k e=>by have:=j6 e;have:b.heap.size=k:=this;omega);have B:Hid (r.ownsRow base 9 1 v37 k (We (l.take k))):=by have:=O4;rw [R7,Ba] at this;exact this
 have E:Hid (∀ k,v37.ownBlock=some k->w.heap.size<=k):=fun k e=>by
  rcases at4 with h | h
  · rw [h] at e;have:b.heap.size=k:=j6 e;omega
  rw [h] at e;have:=j6 e;have:=p.size;omega
 have q:=Q0 (q.out.gb g4 (by intro e;have:f.heap.size=b.heap.size:=j6 e;omega));clear O4 g4 at4;clear j;refine Z6 g trivial fun j=>?_;clear g K;exact zK base a cap k l s w r _ _ _ _ _ _ _ _ _ _ _ _ _ _ _ _ _ _ _ _ _ _ _ _ _ _ _ _ _ _ _ _ _ C _ L f.heap.size _ _ U2 hQ R P B q V F A E U
theorem RP (base:Nat) (v:Value) (l:List ByteArray) (s:ByteArray) (w:World) (h:w.ownsRow base 9 1 v l.length (We l)) (D:l.length<=1000) (I:base<=w.heap.size):
 Calls prog 89 #[v,.string s] w fun e w'=>(∃ v',e=.returned v'/\w'.ownsRow base 9 1 v' (Ff l s).length (We (Ff l s)))/\Below w.heap.size w w':=by
 have HR:=Q0 h;obtain ⟨a,cap,hv,A⟩:=xe h;subst hv;have H:l.length<=cap:=by
  rcases h.2 with ⟨e,h0⟩ | ⟨g,c,cur,e,_,_,z,_⟩
  · omega
  injection e with _ _ e;omega
 have J:=Q0 A;obtain ⟨b,Y,z⟩:=Sq A;have HC:=Q0 z;clear h A z;go_enter func89,ntmps89
 go_wp2_with fail
 go_loopw [5] (fun y wr=>∃ k:Nat,k<=l.length/\y=.int .i64 k/\wr=w/\Hid (∀ j,j<k->lt (l.getD j ⟨#[]⟩) s=true)) (fun y _=>l.length - (intOf y).toNat)
 case atStart=>exact ⟨0,I5 _,rfl,rfl,fun j h=>absurd h (F5 _)⟩
 obtain ⟨k,E,rfl,rfl,f⟩:=hrel;by_cases r:k<l.length;rotate_left
 · obtain rfl:k=l.length:=O0
   have i:=Q0 (UF l s _ P9 f.out (fun h=>O0));have o:Hid (Ff l s=l.take l.length++[s]++l.drop l.length):=by show _=_;unfold Ff;rw [i.out,if_neg X0]
   clear f i
   go_upto_region 6 with fail
   try simp only [qq]
   refine IP base a cap l.length l s wr _ _ _ _ _ _ _ _ _ _ _ _ _ _ _ _ _ _ _ _ _ _ _ _ _ _ _ _ _ _ _ _ _ _ _ _ _ _ _ _ _ _ ?hq2 P9 D H J I ?kk2
   case hq2=>exact fun _ _ d _ _ h=>by cases d <;> exact h
   intro X W V U S R Q P O N L K v' w' m n;have B:=Q0 m;have C:=Q0 n;clear m n;go_wp2;go_ret;exact ⟨⟨_,rfl,by rw [o.out];exact B.out⟩,C.out⟩
 rcases HC.out with Z | ⟨ha,hbw,F⟩
 · rw [Z] at r;exact absurd r (F5 _)
 subst ha;have g0:=F k r;have u:Hid (lt (l.getD k ⟨#[]⟩) s=true->∀ j,j<k+1->lt (l.getD j ⟨#[]⟩) s=true):=fun h j hj=>by
  rcases U5 j k with h1 | h1
  · exact f.out j h1
  obtain rfl:j=k:=O0;exact h
 have t:Hid (lt (l.getD k ⟨#[]⟩) s=false->kP l s=k):=fun h=>UF l s k E f.out (fun _=>h);have p:Hid (l[k]?=some (l.getD k ⟨#[]⟩)):=by show _=_;simp [List.getD,F8 r]
 generalize l.getD k ⟨#[]⟩=x at*;clear F;cases hx:Op.bytesLess x.toList s.toList;rotate_left
 · have HD':=Q0 (u.out hx)
   clear u t p f;go_wp2;go_roundw
   case rel=>exact ⟨k+1,O0,by go_num,trivial,HD'⟩
   case measure=>simp [intOf];omega
 have i:=Q0 (t.out hx);cases hq:(x.toList==s.toList);rotate_left
 · have q:x=s:=by
    have:=Vf.1 hq;rw [I7,I7] at this;exact Hd (ag.1 this)
   have o:Hid (Ff l s=l):=by show _=_;unfold Ff;rw [i.out,p.out,q,if_pos rfl]
   clear u t p f i;subst q;go_wp2;go_ret;exact ⟨⟨_,rfl,by rw [o.out];exact HR.out⟩,F4 _ _⟩
 have q:x≠s:=fun e=>by rw [e] at hq;simp at hq
 have o:Hid (Ff l s=l.take k++[s]++l.drop k):=by show _=_;unfold Ff;rw [i.out,p.out,if_neg (fun e=>q (Option.some.inj e))]
 clear u t p f i
 go_upto_region 6 with fail
 try simp only [qq]
 refine IP base (some ⟨b,Y,none⟩) cap k l s wr _ _ _ _ _ _ _ _ _ _ _ _ _ _ _ _ _ _ _ _ _ _ _ _ _ _ _ _ _ _ _ _ _ _ _ _ _ _ _ _ _ _ ?hq1 E D H J I ?kk1
 case hq1=>exact fun _ _ d _ _ h=>by cases d <;> exact h
 intro X W V U S R Q P O N L K v' w' m n;have B:=Q0 m;have C:=Q0 n;clear m n;go_wp2;go_ret;exact ⟨⟨_,rfl,by rw [o.out];exact B.out⟩,C.out⟩
end Go.Proofs.YtdjaajjndfbpmaaGreatDoor
namespace Go.Proofs.YtdjaajjndfbpmaaGreatDoor
open Go.RowKit
open G.T (lt)
variable {E:Env} {nm s wt:ByteArray} {C C0:List ByteArray} {ls:List M.L4} {base j:Nat}
structure Cn (E:Env) (nm:ByteArray) (C0 C:List ByteArray):Prop where
 NV:gp C
 sub:∀ k∈C0,k∈C
 rch:∀ k∈C,Js E nm k
 len:C0.length<=C.length
theorem Cn.put (h:Cn E nm C0 C) (b:Js E nm s):Cn E nm C0 (Ff C s):=
 ⟨gH h.NV s,fun k a=>(Oe _ _ _).2 (.inl (h.sub k a)),fun k a=>((Oe _ _ _).1 a).elim (h.rch k) (fun e=>e▸b),Z4 h.len (MG C s).1⟩
theorem Cn.back (h:Cn E nm C0 C) (h0:gp C0) (hl:¬ C0.length<C.length):∀ k∈C,k∈C0:=fun k b=>Ph fun a=>by
 have:=Ef (nA.2 ⟨a,yj h0⟩) (l':=C) (fun x hx=>by
  rcases D_.1 hx with rfl | hx
  · exact b
  exact h.sub x hx)
 rw [u_] at this;omega
def BO (E:Env) (ws:List W8):Prop:=(∀ i,i<ws.length->∀ k∈qa (ws.getD i J9).ls (ws.getD i J9).wt,Ask E (ws.getD i J9).m.nm k)/\∀ n k,Ask E n k->∃ i,i<ws.length/\(ws.getD i J9).m.nm=n/\k∈qa (ws.getD i J9).ls (ws.getD i J9).wt
theorem eG (a:j<ls.length) (h:(ls.getD j M.Ga).has=false):(ls.getD j M.Ga).nm∈qa ls wt:=by
 refine XA _ (D9.2 ⟨ls.getD j M.Ga,xm.2 ⟨by simp [List.getD,F8 a],by rw [h];rfl⟩,rfl⟩)
theorem GH (h:∀ j,j<ls.length->(ls.getD j M.Ga).has=false->(ls.getD j M.Ga).nm∈C) (hw:wt≠⟨#[]⟩->wt∈C):∀ k∈qa ls wt,k∈C:=fun k a=>by
 rcases P8.1 a with a | a
 · obtain ⟨x,hx,rfl⟩:=D9.1 a
   obtain ⟨hx,d⟩:=xm.1 hx;obtain ⟨j,b,rfl⟩:=Lb hx;have:=h j b;simp only [List.getD,F8 b,xA] at this;exact this (by simpa using d)
 split at a
 · cases a
 rename_i c;rw [R9.1 a];exact hw c
theorem nM (h:wt≠⟨#[]⟩):wt∈qa ls wt:=List.mem_append_right _ (by rw [R3 h];exact R9.2 rfl)
theorem row_one (w:World) (x:Value) (e:TypeId) (a:base<=w.heap.size):(w.alloc (.cells #[x] e)).ownsRow base e 1 (.slice (some ⟨w.heap.size,0,none⟩) 1 1) 1 [x]:=
 ⟨rfl,.inr ⟨w.heap.size,1,#[x],rfl,a,Bn w _,Q6 _,K3,rfl,rfl⟩⟩
theorem nQ (E:Env) (hE:Y7 E) (hms:E.ms.length<=30) (wa:Option Addr) (wc:Nat) (ws:List W8) (nm:ByteArray) (w:World) (GU:ws.length<=300) (hws:Zh w wa ws) (hlv:∀ i,i<ws.length->Te w (ws.getD i J9)/\(ws.getD i J9).ls.length<=15) (hw:BO E ws):
 Calls Tryz.prog 56 #[.slice wa ws.length wc,.string nm] w fun e w'=>(∃ v,e=.returned v/\∃ C,w'.ownsRow w.heap.size 9 1 v C.length (We C)/\gp C/\∀ k,k∈C↔Js E nm k)/\Below w.heap.size w w':=by
 have HE:=Q0 hE;have KX:=Q0 hms;have HW:=Q0 hw;have HL:=Q0 hlv;obtain ⟨b,off,hc⟩:=Zr hws;have HC:=Q0 hc;have LEN:Hid (∀ C0 C,Cn E nm C0 C->C.length<=481):=fun C0 C h=>El HE.out KX.out (yj h.NV) h.rch;clear hE hms hw hlv hws hc;go_enter Tryz.func56,Tryz.ntmps56
 go_upto_region 2 with fail
 obtain ⟨u0,U⟩:∃ u:World,u=w.alloc (.cells #[.string nm] 9):=⟨_,rfl⟩;rw [<- U];have R0:Hid (u0.ownsRow w.heap.size 9 1 (.slice (some ⟨w.heap.size,0,none⟩) 1 1) [nm].length (We [nm])):=by show World.ownsRow _ _ _ _ _ _ _;rw [U];exact row_one w _ 9 P9
 have B0:Hid (Below w.heap.size w u0):=by show Below _ _ _;rw [U];exact bA
 clear U
 go_wp2_with fail
 go_loopg [5,6] 483 (fun n F v6 wr=>∃ (O:Bool) (C:List ByteArray) (va:Option Addr) (g:Nat),F=.slice va C.length g/\v6=.bool O/\Hid (wr.ownsRow w.heap.size 9 1 (.slice va C.length g) C.length (We C))/\Hid (Cn E nm C C/\nm∈C)/\Hid (O=true->483 - C.length<=n)/\Hid (O=false->∀ i,i<ws.length->(ws.getD i J9).m.nm∈C->∀ k∈qa (ws.getD i J9).ls (ws.getD i J9).wt,k∈C)/\Hid (Below w.heap.size w wr))
 case atStart=>exact ⟨true,[nm],_,_,rfl,rfl,R0.out,⟨⟨jr _ _,fun k h=>h,fun k h=>by rw [R9.1 h];exact .base,Q6 _⟩,R9.2 rfl⟩,fun _=>X0,(fun h=>by cases h),B0.out⟩
 obtain ⟨O,C0,va,g,rfl,rfl,HR0,x,HN0,HCL,HB0⟩:=hrel;cases O
 · have HF:Hid (∀ k,k∈C0↔Js E nm k):=fun k=>⟨x.out.1.rch k,fun h=>by
    induction h with
    | base=>exact x.out.2
    | step _ ha ih=>
     obtain ⟨i,hi,h1,h2⟩:=HW.out.2 _ _ ha;exact HCL.out rfl i hi (by rw [h1];exact ih) _ h2⟩
   go_wp2;go_ret;exact ⟨⟨_,rfl,C0,HR0.out,x.out.1.NV,HF.out⟩,HB0.out⟩
 have hn0:=HN0.out rfl;have hl0:=LEN.out _ _ x.out.1;clear HN0 HCL
 go_wp2_with fail
 go_loopw [5,8] (fun F v8 wr=>∃ (i:Nat) (C:List ByteArray) (va:Option Addr) (g:Nat),i<=ws.length/\F=.slice va C.length g/\v8=.int .i64 i/\Hid (wr.ownsRow w.heap.size 9 1 (.slice va C.length g) C.length (We C))/\Hid (Cn E nm C0 C)/\Hid (∀ f,f<i->(ws.getD f J9).m.nm∈C0->∀ k∈qa (ws.getD f J9).ls (ws.getD f J9).wt,k∈C)/\Hid (Below w.heap.size w wr)) (fun _ v8 _=>ws.length - (intOf v8).toNat)
 case atStart=>exact ⟨0,C0,_,_,I5 _,rfl,rfl,HR0.out,x.out.1,fun j h=>absurd h (F5 _),HB0.out⟩
 obtain ⟨i,a,va,g,hi,rfl,rfl,P,l,R,S⟩:=hrel;have hl1:=LEN.out _ _ l.out;by_cases B:i<ws.length;rotate_left
 · obtain rfl:i=ws.length:=O0
   have a0a:Hid (Cn E nm a a/\nm∈a):=⟨⟨l.out.NV,fun k h=>h,l.out.rch,Q6 _⟩,l.out.sub _ x.out.2⟩;have hle:=l.out.len;by_cases hgr:C0.length<a.length
   · clear R
     go_wp2
     go_roundg (483 - a.length)
     case measure=>omega
     case rel=>exact ⟨true,a,_,_,rfl,rfl,P.out,a0a.out,fun _=>Q6 _,(fun h=>by cases h),S.out⟩
   have HCL:Hid (∀ i,i<ws.length->(ws.getD i J9).m.nm∈a->∀ k∈qa (ws.getD i J9).ls (ws.getD i J9).wt,k∈a):=fun j hj A=>R.out j hj (l.out.back x.out.1.NV hgr _ A);clear R;go_wp2
   go_roundg 0
   case measure=>omega
   case rel=>exact ⟨false,a,_,_,rfl,rfl,P.out,a0a.out,(fun h=>by cases h),fun _=>HCL.out,S.out⟩
 rcases HC.out with hss | ⟨ha,hbw,hcell⟩
 · rw [hss] at B;exact absurd B (F5 _)
 subst ha;have G:Hid (∀ u,Below w.heap.size w u->∀ j v,(ws.getD i J9).vs[j]?=some v->u.cell? ⟨b,off+i*8+j,none⟩=some v):=fun u hu j v e=>(hu.cell (p:=⟨b,off+i*8+j,none⟩) hbw).trans (hcell i B j v e);have LV:=Q0 (HL.out i B).1;have LX:=(HL.out i B).2;have W:=Q0 (HW.out.1 i B);have t:Hid (∀ C:List ByteArray,(∀ k∈a,k∈C)->((ws.getD i J9).m.nm∈C0->∀ k∈qa (ws.getD i J9).ls (ws.getD i J9).wt,k∈C)->∀ f,f<i+1->(ws.getD f J9).m.nm∈C0->∀ k∈qa (ws.getD f J9).ls (ws.getD f J9).wt,k∈C):=fun C H h f hi' A=>by
  rcases U5 f i with h1 | h1
  · exact fun k K=>H k (R.out f h1 A k K)
  obtain rfl:f=i:=O0;exact h A
 clear R;generalize ws.getD i J9=z at*;obtain ⟨la,lc,hla,hlk,_⟩:=LV.out;obtain ⟨⟨xn,xt,xa⟩,xl,ls,xo,xc,xx,d⟩:=z;dsimp only at hla hlk W t LX;subst hla;have g0:wr.cell? ⟨b,off+i*8,none⟩=some (.string xn):=G.out wr S.out 0 _ rfl;obtain ⟨MX,OX,hv',IU⟩:=xe P.out;injection hv' with e1 _ e2;subst e1 e2;have h53:=KQ va g a xn wr O0 IU;clear hcell IU LV
 go_wp2_with fail
 refine h53.mono ?_;rintro e w1 ⟨rfl,rfl⟩;clear h53;cases J:Ox a xn
 · have Q:=Q0 (t.out a (fun k h=>h) (fun A=>absurd (l.out.sub _ A) (fun h=>by rw [Ke.2 h] at J;cases J)))
   clear t W;go_wp2;go_roundw
   case rel=>exact ⟨i+1,a,_,_,O0,rfl,by go_num,P.out,l.out,Q.out,S.out⟩
   case measure=>simp [intOf];omega
 have hxm:=Q0 (Ke.1 J);have HRX:Hid (∀ k∈qa ls d,Js E nm k):=fun k K=>.step (l.out.rch _ hxm.out) (W.out k K);have VR:=Q0 hlk;clear J W hlk
 go_wp2_with fail
 go_loopw [5,9] (fun F v9 wr=>∃ (q:Nat) (C:List ByteArray) (va:Option Addr) (g:Nat),q<=ls.length/\F=.slice va C.length g/\v9=.int .i64 q/\Hid (wr.ownsRow w.heap.size 9 1 (.slice va C.length g) C.length (We C))/\Hid (Cn E nm C0 C/\∀ k∈a,k∈C)/\Hid (∀ j,j<q->(ls.getD j M.Ga).has=false->(ls.getD j M.Ga).nm∈C)/\Hid (Below w.heap.size w wr)) (fun _ v9 _=>ls.length - (intOf v9).toNat)
 case atStart=>exact ⟨0,a,_,_,I5 _,rfl,rfl,P.out,⟨l.out,fun k h=>h⟩,fun j h=>absurd h (F5 _),S.out⟩
 obtain ⟨q,c,vb,vd,J,rfl,rfl,X,r,Z,o⟩:=hrel;have hl2:=LEN.out _ _ r.out.1;have g3:=G.out wr o.out 3 _ rfl;by_cases I:q<ls.length;rotate_left
 · have uS:Hid (∀ C:List ByteArray,(∀ k∈c,k∈C)->(d≠⟨#[]⟩->d∈C)->∀ k∈qa ls d,k∈C):=fun C H hw=>GH (fun j hj V=>H _ (Z.out j O0 V)) hw
   have g7:=G.out wr o.out 7 _ rfl;clear Z;cases hw0:d.toList.isEmpty;rotate_left
   · have hwe:d=⟨#[]⟩:=by
      have:d.toList=[]:=by simpa using hw0
      rw [I7] at this;exact Hd (ag.1 this)
     have Q:=Q0 (t.out c r.out.2 (fun _=>uS.out c (fun k h=>h) (fun h=>absurd hwe h)));clear t uS;go_wp2;exact ⟨⟨i+1,c,_,_,O0,rfl,by go_num,X.out,r.out.1,Q.out,o.out⟩,by simp [intOf];omega⟩
   have hwn:d≠⟨#[]⟩:=fun e=>by rw [e] at hw0;simp [I7] at hw0
   have DW:=Q0 (HRX.out _ (nM (ls:=ls) hwn));have N:=RP w.heap.size _ c d wr X.out O0 o.out.size
   go_wp2_with fail
   refine N.mono ?_;rintro e w2 ⟨⟨v',rfl,s⟩,L⟩;obtain ⟨ve,vf,hv3,_⟩:=xe s;subst hv3;have HR3:=Q0 s;have HB3:=Q0 (bT o.out L);have PX:=Q0 (r.out.1.put DW.out);have Q:=Q0 (t.out (Ff c d) (fun k h=>(Oe _ _ _).2 (.inl (r.out.2 k h))) (fun _=>uS.out (Ff c d) (fun k h=>(Oe _ _ _).2 (.inl h)) (fun _=>(Oe _ _ _).2 (.inr rfl))));clear N s L t uS g3 g7;go_wp2;exact ⟨⟨i+1,Ff c d,_,_,O0,rfl,by go_num,HR3.out,PX.out,Q.out,HB3.out⟩,by simp [intOf];omega⟩
 rcases VR.out with hss | ⟨lb,lo,hl,a0b,hlc⟩
 · rw [hss] at I;exact absurd I (F5 _)
 subst hl;have h0:=(o.out.cell (p:=⟨lb,lo+q*4,none⟩) a0b).trans (hlc q I).1;have h1:=(o.out.cell (p:=⟨lb,lo+q*4+1,none⟩) a0b).trans (hlc q I).2.1;have HAS:=Q0 (fun h=>HRX.out _ (eG (wt:=d) I h));have Y:Hid (∀ C:List ByteArray,(∀ k∈c,k∈C)->((ls.getD q M.Ga).has=false->(ls.getD q M.Ga).nm∈C)->∀ j,j<q+1->(ls.getD j M.Ga).has=false->(ls.getD j M.Ga).nm∈C):=fun C H h j hj V=>by
  rcases U5 j q with h1 | h1
  · exact H _ (Z.out j h1 V)
  obtain rfl:j=q:=O0;exact h V
 clear Z hlc;generalize ls.getD q M.Ga=y at*;obtain ⟨yh,D,yc,yt⟩:=y;dsimp only at*;cases yh;rotate_left
 · have JU:=Q0 (Y.out c (fun k h=>h) (fun h=>by cases h))
   clear Y HAS;go_wp2;go_roundw
   case rel=>exact ⟨q+1,c,_,_,O0,rfl,by go_num,X.out,r.out,JU.out,o.out⟩
   case measure=>simp [intOf];omega
 have DW:=Q0 (HAS.out rfl);have N:=RP w.heap.size _ c D wr X.out O0 o.out.size
 go_wp2_with fail
 refine N.mono ?_;rintro e w2 ⟨⟨v',rfl,s⟩,L⟩;obtain ⟨ve,vf,hv3,_⟩:=xe s;subst hv3;have HR3:=Q0 s;have HB3:=Q0 (bT o.out L);have PX:Hid (Cn E nm C0 (Ff c D)/\∀ k∈a,k∈Ff c D):=⟨r.out.1.put DW.out,fun k K=>(Oe _ _ _).2 (.inl (r.out.2 k K))⟩;have JU:=Q0 (Y.out (Ff c D) (fun k h=>(Oe _ _ _).2 (.inl h)) (fun _=>(Oe _ _ _).2 (.inr rfl)));clear N s L Y HAS h0 h1 g3;go_wp2;go_roundw
 case rel=>exact ⟨q+1,Ff c D,_,_,O0,rfl,by go_num,HR3.out,PX.out,JU.out,HB3.out⟩
 case measure=>simp [intOf];omega
end Go.Proofs.YtdjaajjndfbpmaaGreatDoor
