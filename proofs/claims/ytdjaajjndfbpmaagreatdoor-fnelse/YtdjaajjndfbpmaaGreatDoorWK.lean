import Derived.Test.YtdjaajjndfbpmaaGreatDoorWE
set_option linter.unusedVariables false
set_option maxHeartbeats 8000000
set_option maxRecDepth 100000
namespace Go.Proofs.YtdjaajjndfbpmaaGreatDoor
open Proofs.Tryz
open Go.RowKit
open G.T (F2 P6 F3 Y8)
variable {w u:World} {base size n:Nat} {e t:TypeId} {v:Value} {xs:List Value}
theorem row0 (w:World) (e:TypeId) (size:Nat) (a:base<=w.heap.size):(w.alloc (.cells #[] e)).ownsRow base e size (.slice (some ⟨w.heap.size,0,none⟩) 0 0) 0 []:=
 ⟨X0,.inr ⟨w.heap.size,0,#[],rfl,a,Bn w _,Q6 _,K3,X0,X0⟩⟩
theorem Vu (fs:List F2) (k:Nat) (h:k<fs.length):(Ag fs)[k*2]?=some (.string (fs.getD k P6).nm):=by
 induction fs generalizing k with
 | nil=>cases h
 | cons x r ih=>
  cases k with
  | zero=>simp [Ag]
  | succ k=>
   have:=ih k (by simpa using h);rw [Su];simpa [Ag] using this
theorem iC (a b:List F2):Ag (a++b)=Ag a++Ag b:=Uq
theorem OG (l:List F2) (k:Nat):Ag (l.take k)=(Ag l).take (k*2):=by
 induction l generalizing k with
 | nil=>simp [Ag]
 | cons x r ih=>
  cases k with
  | zero=>simp [Ag]
  | succ k=>rw [Su];have:=ih k;simp [Ag] at this ⊢;exact this
theorem jH (l:List F2) (k:Nat):Ag (l.drop k)=(Ag l).drop (k*2):=by
 induction l generalizing k with
 | nil=>simp [Ag]
 | cons x r ih=>
  cases k with
  | zero=>simp [Ag]
  | succ k=>rw [Su];have:=ih k;simp [Ag] at this ⊢;exact this
theorem NB (h:w.ownsRow base e size v n xs) (i m:Nat) (b:i+m<=n) (c cap:Nat) (a:Option Addr) (hv:v=.slice a n cap) (o:m=0\/cap≠i) (d:∀ g,v.ownBlock=some g->u.heap[g]?=w.heap[g]?):Src u (.slice (if cap=i then a else a.map (·.add (i*size))) m c) size m ((xs.drop (i*size)).take (m*size)):=by
 rcases h.2 with ⟨h1,h2⟩ | ⟨g,p,cur,h1,hb,l,hnc,hcm,hcs,f⟩
 · subst h2
   obtain rfl:=Nat.le_zero.1 (Z4 (Nat.le_add_left m i) b);have:a=none:=by rw [h1] at hv;injection hv with h;exact h.symm
   subst this;exact .inl ⟨⟨c,X0⟩,rfl,X0⟩
 have:a=some ⟨g,0,none⟩/\cap=p:=by rw [h1] at hv;injection hv with h h2 h3;exact ⟨h.symm,h3.symm⟩
 obtain ⟨rfl,rfl⟩:=this;by_cases h0:m=0
 · subst h0
   refine .inr ⟨if cap=i then ⟨g,0,none⟩ else (⟨g,0,none⟩:Addr).add (i*size),c,by split <;> rfl,X0,fun j x e=>by simp at e⟩
 rw [R3 (o.resolve_left h0)];have k:(i+m)*size<=n*size:=Nat.mul_le_mul_right _ b;rw [Nat.add_mul] at k;refine .inr ⟨(⟨g,0,none⟩:Addr).add (i*size),c,rfl,by simp;have:=h.1;omega,fun j x e=>?_⟩;rw [Mo] at e;split at e;rotate_left
 · cases e
 rw [zq,<- f,Mo] at e;split at e;rotate_left
 · cases e
 rw [Qj,Qj,Z5 ((d g (by rw [h1];rfl)).trans l)];simpa using e
theorem bM {va:Option Addr} {a:Nat} {gs:List F2} (h:w.ownsRow base 39 2 (.slice va gs.length a) gs.length (Ag gs)) {k:Nat} (c:k<gs.length):∃ g,va=some ⟨g,0,none⟩/\w.cell? ⟨g,k*2,none⟩=some (.string (gs.getD k P6).nm):=by
 rcases h.2 with ⟨h1,h2⟩ | ⟨g,cp,cur,h1,hb,d,hnc,hcm,hcs,b⟩
 · omega
 injection h1 with h1 _ _;refine ⟨g,h1,?_⟩;have e:=Vu gs k c;rw [<- b,Mo,Y3 O0] at e;rw [Z5 d,<- e];simp
theorem ZM (f:prog.underlying t=some (.slice e)) (b:prog.elem t=e) (c:∀ u,(sizeOf e).run prog u=.ok size u) (h:w.ownsRow base e size v n xs) {k:Nat} (hk:k<=n):∃ v',(∀ u,(Instr.slice t v none (some (.int .i64 (k:Int))) none).run prog u=.ok v' u)/\∀ u,(∀ g,v.ownBlock=some g->u.heap[g]?=w.heap[g]?)->Src u v' size k (xs.take (k*size)):=by
 obtain ⟨a,cap,hv⟩:=Nc h;have hc:n<=cap:=by
  rcases h.2 with ⟨h1,h2⟩ | ⟨g,cp,cur,h1,hb,hg,hnc,_⟩
  · omega
  rw [h1] at hv;injection hv with _ _ h3;omega
 subst hv;refine ⟨.slice (if cap=0 then a else a.map (·.add (0*size))) k cap,fun u=>?_,fun u d=>?_⟩
 · rw [run_slice_h u t a n cap (by rw [b];exact f) .i64 k O0 O0,b,c]
   simp [sliced,Result.andThen]
 have:=NB h 0 k O0 cap cap a rfl O0 d;simpa using this
theorem TM (f:prog.underlying t=some (.slice e)) (b:prog.elem t=e) (c:∀ u,(sizeOf e).run prog u=.ok size u) (h:w.ownsRow base e size v n xs) {k:Nat} (hk:k<=n):∃ v',(∀ u,(Instr.slice t v (some (.int .i64 (k:Int))) none none).run prog u=.ok v' u)/\∀ u,(∀ g,v.ownBlock=some g->u.heap[g]?=w.heap[g]?)->Src u v' size (n - k) (xs.drop (k*size)):=by
 obtain ⟨a,cap,hv⟩:=Nc h;have hc:n<=cap:=by
  rcases h.2 with ⟨h1,h2⟩ | ⟨g,cp,cur,h1,hb,hg,hnc,_⟩
  · omega
  rw [h1] at hv;injection hv with _ _ h3;omega
 subst hv;refine ⟨.slice (if cap=k then a else a.map (·.add (k*size))) (n - k) (cap - k),fun u=>?_,fun u d=>?_⟩
 · rw [run_slice_l u t a n cap (by rw [b];exact f) .i64 k O0 O0,b,c]
   simp [sliced,Result.andThen]
 have:=NB h k (n - k) O0 (cap - k) cap a rfl O0 d;rw [E_ (by simp [h.1,Nat.sub_mul])] at this;exact this
structure W9 (w:World) (A:Value) (x:F2) (u:World):Prop where
 b:Below w.heap.size w u
 h0:Cl u w.heap.size 25 [A]
 h1:Cl u (w.heap.size+1) 39 [.string x.nm,.string x.tx]
 h2:Cl u (w.heap.size+1+1) 25 [.slice none 0 0]
theorem W9.below {w:World} {A:Value} {x:F2} {u u':World} (h:W9 w A x u) (a:Below u.heap.size u u'):W9 w A x u':=
 ⟨h.b.trans (a.mono h.b.size),h.h0.below a h.h0.lt,h.h1.below a h.h1.lt,h.h2.below a h.h2.lt⟩
def jL (gs:List F2) (x:F2) (k:Nat):Prop:=∀ j,j<k->G.T.lt (gs.getD j P6).nm x.nm=true
def Stop (gs:List F2) (x:F2) (k:Nat):Prop:=k<gs.length->G.T.lt (gs.getD k P6).nm x.nm=false
def Qh (fs:List F2) (x:F2) (gs:List F2):Prop:=G.T.X3 fs/\G.T.V9 x=true/\∃ hs k,hs=fs.filter (nq x.nm)/\hs.length<40/\k<=hs.length/\gs=hs.take k++[x]++hs.drop k/\jL hs x k/\Stop hs x k
def wM (w:World) (fs:List F2) (x:F2) (e:Ending) (w':World):Prop:=∃ v c gs,e=.returned (.tuple #[.agg #[v],.int .i64 c])/\w'.ownsRow w.heap.size 39 2 v gs.length (Ag gs)/\gs.length<=40/\(∀ y∈gs,y∈fs\/y=x)/\(c=0->Qh fs x gs)
theorem Zq (gs:List F2):∀ v∈Ag gs,v.oneCell'=true:=fun v hv=>by
 obtain ⟨x,_,h⟩:=Tk.1 hv;simp at h;rcases h with rfl | rfl <;> rfl
theorem NJ {w w':World} {b:Nat} {t:TypeId} {xs:List Value} {g:Nat} {n c:Nat} (h:Cl w b t xs) (d:w.grownBy w' (Value.slice (some ⟨g,0,none⟩) n c).ownBlock) (a:b≠g):Cl w' b t xs:=(d.block b h.lt (fun e=>a (j6 e))).trans h
theorem xL {w u:World} {x:F2} {fs:List F2} (i:u.cell? ⟨w.heap.size+1+1,0,none⟩=some (.slice none 0 0)) (d:Below w.heap.size w u) (c:Int) (b:c≠0) (a:Array Value) (g:a[4]?=some (.pointer (some ⟨w.heap.size+1+1,0,none⟩))) (f:a[5]?=some (.int .i64 c)):bodyPost prog f15 (fun e w'=>wM w fs x e w'/\Below w.heap.size w w') .ret ⟨a,[]⟩ u:=
 K4 (v:=.tuple #[.agg #[.slice none 0 0],.int .i64 c]) (by simp [results,results15,go_sem,i,g,f]) rfl ⟨⟨_,_,[],rfl,F9 _ _ _ _,X0,(fun y h=>nomatch h),fun h=>absurd h b⟩,d⟩
theorem c15 (a:Option Addr) (cap:Nat) (fs:List F2) (x:F2) (w:World) (hl:fs.length<=1000) (hs:∀ i,(fs.getD i P6).le 4000) (hx:x.le 4000) (hat:F3 w a fs):
 Calls prog 15 #[.agg #[.slice a fs.length cap],.agg #[.string x.nm,.string x.tx]] w fun e w'=>wM w fs x e w'/\Below w.heap.size w w':=by
 have HAT:=M4 hat;clear hat;go_enter func15,ntmps15
 go_wp2_with fail
 obtain ⟨W,hW⟩:∃ W:World,W=((w.alloc (.cells #[.slice a fs.length cap] 25)).alloc (.cells #[.string x.nm,.string x.tx] 39)).alloc (.cells #[.slice none 0 0] 25):=⟨_,rfl⟩;rw [<- hW];have H:Hid (W9 w (.slice a fs.length cap) x W):=by
  rw [hW];exact ⟨(bA.alloc X0 _).alloc J4 _,J_ (J_ (U1 w [_] 25) _) _,J_ (Uf (xs:=[_,_]) X0) _,Uf (xs:=[_]) X0⟩
 clear hW;refine (G.T.c8 a cap fs W O0 (fun i=>⟨Z4 (hs i).1 O0,Z4 (hs i).2 O0⟩) (G.T.U0 HAT.out H.out.b)).mono ?_;rintro e w1 ⟨⟨b,rfl,hbt⟩,hb1⟩;have N:=M4 (H.out.below hb1);have HTT:=M4 hbt.1;clear H hbt hb1;have F:=N.out.h0.cell 0;have s:=N.out.h1.cell 0;have r:=N.out.h1.cell 1;have p:=N.out.h2.cell 0;have R:=N.out.h2.opn 0;dsimp only [List.getElem?_cons_zero,List.getElem?_cons_succ] at F s r p;cases b
 · go_wp2
   exact xL (O7 _ _ _ p) (N.out.b.setCell (by show _<=w.heap.size+1+1;omega) _) 1 K3 _ rfl rfl
 have XZ:=M4 (HTT.out rfl);clear HTT
 go_wp2_with fail
 refine (G.T.QP x w1 ⟨Z4 hx.1 O0,Z4 hx.2 O0⟩).mono ?_;rintro e w2 ⟨rfl,hb2⟩;have z:=M4 (N.out.below hb2);clear N hb2 F s r p R;have F:=z.out.h0.cell 0;have s:=z.out.h1.cell 0;have r:=z.out.h1.cell 1;have p:=z.out.h2.cell 0;have R:=z.out.h2.opn 0;dsimp only [List.getElem?_cons_zero,List.getElem?_cons_succ] at F s r p;cases hf:G.T.V9 x
 · go_wp2
   exact xL (O7 _ _ _ p) (z.out.b.setCell (by show _<=w.heap.size+1+1;omega) _) 2 K3 _ rfl rfl
 go_wp2_with fail
 refine (qQ a cap fs x.nm w2 hl (G.T.U0 HAT.out z.out.b)).mono ?_;rintro e C ⟨⟨v,gs,rfl,hr,hg,hsub,hfi⟩,hb3⟩;have HFI:=M4 hfi;have HFO:=M4 hf;have B:=M4 (z.out.below hb3);have L:=M4 hr;have a0E:=M4 hsub;have hz2:=z.out.b.size;have h2l:=z.out.h2.lt;clear z hb3 hr hsub hfi F s r p R hf;obtain ⟨va,P,rfl⟩:=Nc L.out;have F:=B.out.h0.cell 0;have s:=B.out.h1.cell 0;have r:=B.out.h1.cell 1;have p:=B.out.h2.cell 0;have R:=B.out.h2.opn 0;dsimp only [List.getElem?_cons_zero,List.getElem?_cons_succ] at F s r p;have hz3:=B.out.h2.lt;have hz1:=B.out.h1.lt;by_cases hbig:40<=gs.length
 · go_wp2
   exact xL ((Sn _ _ _ J4).trans (O7 _ _ _ p)) ((B.out.b.setCell (by show _<=w.heap.size+1+1;omega) _).alloc J4 _) 3 K3 _ rfl rfl
 obtain ⟨w4,hw4⟩:∃ u:World,u=C.alloc (.cells #[.slice va gs.length P] 25):=⟨_,rfl⟩;have hb4:Below C.heap.size C w4:=by rw [hw4];exact bA
 have U:Hid (Cl w4 C.heap.size 25 [.slice va gs.length P]):=by show Cl _ _ _ _;rw [hw4];exact U1 C [_] 25
 have H4:=M4 (B.out.below hb4);have HR4:=M4 (ownsRow_below L.out hb4)
 go_wp2_with fail
 rw [<- hw4];clear hw4;have ES:=U.out.lt;clear F s r p R B L;go_loopw [7] (fun i wr=>Hid (Below w4.heap.size w4 wr)/\∃ k:Nat,i=.int .i64 k/\k<=gs.length/\Hid (jL gs x k)) (fun i _=>gs.length - (intOf i).toNat)
 case atStart=>exact ⟨F4 _ _,0,rfl,I5 _,fun j h=>absurd h (F5 _)⟩
 obtain ⟨X,k,rfl,hk,HU⟩:=hrel;have H:=M4 (H4.out.below X.out);have U:=M4 (U.out.below X.out U.out.lt);have L:=M4 (ownsRow_below HR4.out X.out);clear H4 HR4;have hz1:=H.out.h2.lt;have ES:=U.out.lt;have s:=H.out.h1.cell 0;have r:=H.out.h1.cell 1;have p:=H.out.h2.cell 0;have R:=H.out.h2.opn 0;have d3:=U.out.cell 0;dsimp only [List.getElem?_cons_zero,List.getElem?_cons_succ] at s r p d3;have HST:Hid (∀ kk:Nat,kk<gs.length->∃ g,va=some ⟨g,0,none⟩/\wr.cell? ⟨g,kk*2,none⟩=some (.string (gs.getD kk P6).nm)):=fun kk hkk=>bM L.out hkk;have HOW:Hid (∀ y,Below wr.heap.size wr y->∀ g,(Value.slice va gs.length P).ownBlock=some g->y.heap[g]?=wr.heap[g]?):=fun y l g e=>l.block g (L.out.lt g e).2;have q:Hid (∀ y,Below wr.heap.size wr y->y.cell? ⟨C.heap.size,0,none⟩=some (.slice va gs.length P)/\y.cell? ⟨w.heap.size+1,0,none⟩=some (.string x.nm)/\y.cell? ⟨w.heap.size+1,1,none⟩=some (.string x.tx)):=fun y l=>⟨(l.cell ES).trans d3,(l.cell (by show w.heap.size+1<_;omega)).trans s,(l.cell (by show w.heap.size+1<_;omega)).trans r⟩;have hcase:(∃ g,k<gs.length/\va=some ⟨g,0,none⟩/\wr.cell? ⟨g,k*2,none⟩=some (.string (gs.getD k P6).nm))\/k=gs.length:=by
  rcases U5 k gs.length with h | h
  · obtain ⟨g,h1,h2⟩:=HST.out k h
    exact .inl ⟨g,h,h1,h2⟩
  exact .inr O0
 clear HST;have mark:=trivial;rcases hcase with ⟨g,hlt,rfl,hgc⟩ | hlt
 case' inl=>
   have jW:Hid (Op.bytesLess (gs.getD k P6).nm.toList x.nm.toList=true->jL gs x (k+1)):=fun h j hj=>by
    rcases U5 j k with h1 | h1
    · exact HU.out j h1
    obtain rfl:j=k:=O0;exact h
   have nT:Hid (Op.bytesLess (gs.getD k P6).nm.toList x.nm.toList=false->Stop gs x k):=fun h _=>h;generalize (gs.getD k P6).nm=nk at*
   go_wp2_with fail
   refine F7 (S:=fun u=>u.cell? ⟨C.heap.size,0,none⟩=some (.slice (some ⟨g,0,none⟩) gs.length P)/\u.cell? ⟨w.heap.size+1,0,none⟩=some (.string x.nm)/\u.cell? ⟨g,k*2,none⟩=some (.string nk)) U2 ?_ fun c=>?_
   · ((try dsimp only);go_keep)
   refine tq 0 c ?_;refine tq 1 c ?_;refine tq 2 c ?_;refine tq 3 c ?_;refine tq 4 c ?_;refine I4 5 c ?_;refine tq 6 c ?_;refine tq 7 c ?_;refine I4 8 c ?_;refine tq 9 c ?_;refine tq 10 c ?_;refine I4 11 c ?_;refine tq 12 c ?_;refine tq 13 c ?_;refine I4 14 c ?_;refine I4 15 c ?_;refine a_ ?_;clear c hgc;go_simp;generalize (Op.bytesLess nk.toList x.nm.toList)=lb at*;cases lb;rotate_left
   · have HU:=M4 (jW.out rfl)
     clear jW nT;go_wp2;go_roundw
     case rel=>exact ⟨X.out.trans ((F4 _ _).drew.mono X.out.size),k+1,by go_num,O0,HU⟩
     case measure=>simp [intOf];omega
   have HS:=M4 (nT.out rfl);clear jW nT
   go_wp2_with fail
   clear hlt;generalize (some (⟨g,0,none⟩:Addr))=va at*;revert mark
 case' inr=>
   have hnl:decide (k<gs.length)=false:=Oh O0;have HS:Hid (Stop gs x k):=fun h=>absurd h O0;clear hlt
   go_wp2_with fail
   refine F7 (S:=fun u=>u.cell? ⟨C.heap.size,0,none⟩=some (.slice va gs.length P)) U2 ?_ fun c=>?_
   · ((try dsimp only);go_keep)
   refine tq 0 c ?_;refine tq 1 c ?_;refine tq 2 c ?_;refine tq 3 c ?_;refine tq 4 c ?_;refine I4 5 c ?_;refine uq 6 c ?_;refine I8 7 c ?_;refine uq 8 c ?_;refine I8 9 c ?_;refine uq 10 c ?_;refine I8 11 c ?_;refine uq 12 c ?_;refine I8 13 c ?_;refine I8 14 c ?_;refine I4 15 c ?_;refine a_ ?_
   go_wp2_with fail
   revert mark
 all_goals
  intro _;obtain ⟨v47,hs1,SR1⟩:=ZM (t:=23) underlying23 U2 (fun u=>sizeOf39 u) L.out hk;obtain ⟨v55,hs2,SR2⟩:=TM (t:=23) underlying23 U2 (fun u=>sizeOf39 u) L.out hk;have S1:Hid (∀ y,Below wr.heap.size wr y->Src y v47 2 k ((Ag gs).take (k*2))):=fun y l=>SR1 y (HOW.out y l);have S2:Hid (∀ y,Below wr.heap.size wr y->Src y v55 2 (gs.length - k) ((Ag gs).drop (k*2))):=fun y l=>SR2 y (HOW.out y l);clear SR1 SR2;refine F7 (S:=fun u=>u.cell? ⟨C.heap.size,0,none⟩=some (.slice va gs.length P)/\u.cell? ⟨w.heap.size+1,0,none⟩=some (.string x.nm)/\u.cell? ⟨w.heap.size+1,1,none⟩=some (.string x.tx)) U2 ?_ fun c=>?_
  · exact q.out _ (F4 _ wr).drew.drew
  obtain ⟨u,hu⟩:∃ u:World,u=wr.drew.drew:=⟨_,rfl⟩;rw [<- hu] at c ⊢;have Lu:Below wr.heap.size wr u:=by rw [hu];exact (F4 _ wr).drew.drew
  clear hu;refine tq 1 c ?_;refine tq 2 c ?_;refine I4 3 c ?_;refine tq 4 c ?_;refine I4 6 c ?_;refine tq 9 c ?_;refine tq 10 c ?_;refine I4 11 c ?_;refine I4 12 c ?_;have AR:=trivial;have row:Hid (∀ y,Below wr.heap.size wr y->Below wr.heap.size wr (y.alloc (.cells #[] 39))/\(y.alloc (.cells #[] 39)).ownsRow wr.heap.size 39 2 (.slice (some ⟨y.heap.size,0,none⟩) 0 0) 0 []):=fun y l=>⟨l.alloc l.size _,row0 y 39 2 l.size⟩;refine Ma (rs:=[0,7]) U2 X0 (x8 (o:=⟨some 43,.buildSlice 23 0 #[],23,_,_,none⟩) rfl (fun K d=>?_) (x8 (o:=⟨some 50,.buildSlice 23 1 #[(0,.tmp 49)],23,_,_,none⟩) rfl (fun K d=>?_) Ra));rotate_left;go_simp;obtain ⟨f,E⟩:∃ y:World,y=u.alloc (.cells #[.string x.nm,.string x.tx] 39):=⟨_,rfl⟩;rw [<- E];have by1:Below u.heap.size u f:=by rw [E];exact bA
  have Cy1:Hid (Cl f u.heap.size 39 [.string x.nm,.string x.tx]):=by show Cl _ _ _ _;rw [E];exact U1 u _ 39
  have A:=bT Lu by1;clear E c;refine Z6 d ?_ fun c=>?_
  · exact q.out _ A
  clear d K;refine rq 0 fun K d=>?_;go_simp;obtain ⟨n,D⟩:∃ y:World,y=f.alloc (.cells #[] 39):=⟨_,rfl⟩;rw [<- D];have dE:Below f.heap.size f n:=by rw [D];exact bA
  have V:=M4 (row.out f A).2;rw [<- D] at V;have m:=bT A dE;clear D c;have O:=M4 (Cy1.out.below dE Cy1.out.lt);refine Z6 d ?_ fun c=>?_
  · exact q.out _ m
  clear d K;refine rq 5 fun K d=>?_;refine z_ rfl _ _ 23 rfl wr.heap.size 39 2 underlying23 Kl K3 _ 0 [] rfl V.out _ k _ rfl (S1.out n m) (fun v hv=>Zq gs v (Un hv)) O0 m.size ?_;intro v48 y3 I Q _;have J:=ai m Q m.size (fun j e=>(V.out.lt j e).1);have I:=M4 I;have O:=M4 (NJ O.out Q (by have:=Cy1.out.lt;omega));clear Q c;refine Z6 d ?_ fun c=>?_
  · exact q.out _ J
  clear d K;generalize u.heap.size=B5 at O ⊢;revert AR;rotate_left;go_simp;obtain ⟨f,E⟩:∃ y:World,y=u.alloc (.cells #[] 39):=⟨_,rfl⟩;rw [<- E];have by1:Below u.heap.size u f:=by rw [E];exact bA
  have Ey1:=M4 (row.out u Lu).2;rw [<- E] at Ey1;have A:=bT Lu by1;clear E c;refine Z6 d ?_ fun c=>?_
  · exact q.out _ A
  clear d K;refine Ma (rs:=[5,7]) U2 X0 (x8 (o:=⟨some 48,.call ⟨.builtin .append,#[.tmp 43,.tmp 47],#[23,23]⟩,23,_,_,none⟩) rfl (fun K d=>?_) (x8 (o:=⟨some 50,.buildSlice 23 1 #[(0,.tmp 49)],23,_,_,none⟩) rfl (fun K d=>?_) Ra));refine z_ rfl _ _ 23 rfl wr.heap.size 39 2 underlying23 Kl K3 _ 0 [] rfl Ey1.out _ k _ rfl (S1.out f A) (fun v hv=>Zq gs v (Un hv)) O0 A.size ?_;intro v48 n Ry2 gy2 _;have m:=ai A gy2 A.size (fun j e=>(Ey1.out.lt j e).1);have Ry2:=M4 Ry2;clear gy2 c;refine Z6 d ?_ fun c=>?_
  · exact q.out _ m
  clear d K;refine rq 7 fun K d=>?_;go_simp;obtain ⟨y3,hy3⟩:∃ y:World,y=n.alloc (.cells #[.string x.nm,.string x.tx] 39):=⟨_,rfl⟩;rw [<- hy3];have by3:Below n.heap.size n y3:=by rw [hy3];exact bA
  have O:Hid (Cl y3 n.heap.size 39 [.string x.nm,.string x.tx]):=by show Cl _ _ _ _;rw [hy3];exact U1 n _ 39
  have J:=bT m by3;clear hy3 c;have I:=M4 (ownsRow_below Ry2.out by3);refine Z6 d ?_ fun c=>?_
  · exact q.out _ J
  clear d K;generalize n.heap.size=B5 at O ⊢;revert AR;rotate_left;go_simp;obtain ⟨n,D⟩:∃ y:World,y=f.alloc (.cells #[.string x.nm,.string x.tx] 39):=⟨_,rfl⟩;rw [<- D];have dE:Below f.heap.size f n:=by rw [D];exact bA
  have Cy2:Hid (Cl n f.heap.size 39 [.string x.nm,.string x.tx]):=by show Cl _ _ _ _;rw [D];exact U1 f _ 39
  have m:=bT A dE;clear D c;have V:=M4 (ownsRow_below Ey1.out dE);refine Z6 d ?_ fun c=>?_
  · exact q.out _ m
  clear d K;refine rq 5 fun K d=>?_;refine z_ rfl _ _ 23 rfl wr.heap.size 39 2 underlying23 Kl K3 _ 0 [] rfl V.out _ k _ rfl (S1.out n m) (fun v hv=>Zq gs v (Un hv)) O0 m.size ?_;intro v48 y3 I Q _;have J:=ai m Q m.size (fun j e=>(V.out.lt j e).1);have I:=M4 I;have O:=M4 (NJ Cy2.out Q (by have:u.heap.size<f.heap.size:=(Ey1.out.lt _ rfl).2;omega));clear Q c;refine Z6 d ?_ fun c=>?_
  · exact q.out _ J
  clear d K;generalize f.heap.size=B5 at O ⊢;revert AR
  all_goals
   intro _;refine rq 8 fun K d=>?_;refine z_ rfl _ _ 23 rfl wr.heap.size 39 2 underlying23 Kl K3 _ (0+k) _ rfl I.out _ 1 [.string x.nm,.string x.tx] rfl (.inr ⟨⟨B5,0,none⟩,1,rfl,rfl,za O.out⟩) (by simp [Value.oneCell']) O0 J.size ?_;intro v51 y4 Ry4 gy4 _;have Z:=ai J gy4 J.size (fun j e=>(I.out.lt j e).1);have Ry4:=M4 Ry4;clear gy4 c;refine Z6 d ?_ fun c=>?_
   · exact q.out _ Z
   clear d K;refine rq 13 fun K d=>?_;refine z_ rfl _ _ 23 rfl wr.heap.size 39 2 underlying23 Kl K3 _ (0+k+1) _ rfl Ry4.out _ (gs.length - k) _ rfl (S2.out y4 Z) (fun v hv=>Zq gs v (List.mem_of_mem_drop hv)) O0 Z.size ?_;intro v56 y5 Y gy5 _;rw [show 0+k+1+(gs.length - k)=gs.length+1 from by omega,Ba] at Y;have Ly5:=ai Z gy5 Z.size (fun j e=>(Ry4.out.lt j e).1);obtain ⟨va5,vc5,rfl⟩:=Nc Y;have Y:=M4 Y;clear gy5 c;refine Z6 d ?_ fun c=>?_
   · exact q.out _ Ly5
   clear d K;refine I4 14 c ?_;refine rq 15 fun K d=>?_;have C5:=H.out.h2.below Ly5 hz1;have e2:=C5.cell 0;have e3:=C5.opn 0;dsimp only [List.getElem?_cons_zero] at e2;obtain ⟨s1,s2,s3⟩:=q.out y5 Ly5;go_simp;clear c;refine Z6 d ?_ fun c=>?_
   · exact ⟨(O_ _ _ _ _ (by simp <;> omega)).trans s1,(O_ _ _ _ _ X0).trans s2,(O_ _ _ _ _ X0).trans s3⟩
   clear d K;refine I4 16 c ?_;refine a_ ?_;clear c;go_wp2;have er:=O7 y5 ⟨w.heap.size+1+1,0,none⟩ (.slice va5 (gs.length+1) vc5) e2;refine K4 (v:=.tuple #[.agg #[.slice va5 (gs.length+1) vc5],.int .i64 0]) (by simp [results,results15,go_sem,er]) rfl ⟨⟨_,0,gs.take k++[x]++gs.drop k,rfl,?_,J4,(fun y l=>?_),fun _=>⟨XZ.out,HFO.out,gs,k,HFI.out,O0,hk,rfl,HU.out,HS.out⟩⟩,?_⟩
   · have h:=D5 (Al (b:=w.heap.size+1+1) (j:=0) (x:=.slice va5 (gs.length+1) vc5) Y.out O0) (B':=w.heap.size) O0
     have e1:(gs.take k++[x]++gs.drop k).length=gs.length+1:=J4;rw [e1,iC,iC,OG,jH];exact h
   · simp only [P8,R9] at l
     rcases l with (h | h) | h
     · exact .inl (a0E.out y (Un h))
     · exact .inr h
     exact .inl (a0E.out y (List.mem_of_mem_drop h))
   exact (H.out.b.trans (Ly5.mono H.out.b.size)).setCell (by show w.heap.size<=w.heap.size+1+1;omega) _
end Go.Proofs.YtdjaajjndfbpmaaGreatDoor
namespace Go.Proofs.YtdjaajjndfbpmaaGreatDoor
open Proofs.Tryz
open Go.RowKit
open G.T (F2 P6 F3 Y8)
def Yh (B:Nat) (w:World) (v:Value):Prop:=∃ a cap fs,v=.slice a fs.length cap/\F3 w a fs/\fs.length<=B/\∀ x∈fs,x.le 4000
theorem ll {fs:List F2} (h:∀ x∈fs,x.le 4000) (i:Nat):(fs.getD i P6).le 4000:=by
 rcases U5 i fs.length with a | a
 · rw [show fs.getD i P6=fs[i] from by simp [List.getD,a]];exact h _ (Ea a)
 rw [show fs.getD i P6=P6 from by simp [List.getD,a]];exact ⟨K3,K3⟩
theorem Yh.below {B:Nat} {w w':World} {v:Value} (h:Yh B w v) (b:Below w.heap.size w w'):Yh B w' v:=by
 obtain ⟨a,cap,fs,h1,h2,h3⟩:=h;exact ⟨a,cap,fs,h1,G.T.U0 h2 b,h3⟩
theorem Yh.but {B q:Nat} {w w':World} {v:Value} (h:Yh B w v) (c:But q w w') (f:∀ k,v.ownBlock=some k->k≠q):Yh B w' v:=by
 obtain ⟨a,cap,fs,rfl,h2,h3⟩:=h;refine ⟨a,cap,fs,rfl,?_,h3⟩;rcases h2 with h2 | ⟨b,e,rfl,d,j⟩
 · exact .inl h2
 have:=f b rfl;exact .inr ⟨b,e,rfl,D7 d c.size,fun i g=>by rw [c.cell d this,c.cell d this];exact j i g⟩
theorem Rx (fs:List F2) (k:Nat) (h:k<fs.length):(Ag fs)[k*2+1]?=some (.string (fs.getD k P6).tx):=by
 induction fs generalizing k with
 | nil=>cases h
 | cons x r ih=>
  cases k with
  | zero=>simp [Ag]
  | succ k=>
   have:=ih k (by simpa using h);rw [Su];simpa [Ag] using this
theorem Wt {w:World} {base:Nat} {a:Option Addr} {c:Nat} {gs:List F2} (h:w.ownsRow base 39 2 (.slice a gs.length c) gs.length (Ag gs)):F3 w a gs:=by
 rcases h.2 with ⟨h1,h2⟩ | ⟨g,cp,cur,h1,hb,d,hnc,hcm,hcs,f⟩
 · exact .inl (Ce.1 h2)
 injection h1 with h1 _ _;have k:∀ j x,(Ag gs)[j]?=some x->w.cell? ⟨g,0+j,none⟩=some x:=fun j x e=>by
  rw [<- f,Mo] at e;split at e
  · rw [Z5 d,R7,<- e];simp
  cases e
 refine .inr ⟨g,0,h1,(Ha.1 d).1,fun i b=>⟨k _ _ (Vu gs i b),?_⟩⟩;rw [xk];exact k _ _ (Rx gs i b)
theorem WB {B:Nat} {w:World} {base:Nat} {v:Value} {gs:List F2} (h:w.ownsRow base 39 2 v gs.length (Ag gs)) (d:gs.length<=B) (b:∀ x∈gs,x.le 4000):Yh B w v:=by
 obtain ⟨a,c,rfl⟩:=Nc h;exact ⟨a,c,gs,rfl,Wt h,d,b⟩
theorem zN {w:World} {X j:Nat} {n c:Nat} {b:Option Addr} {s:ByteArray} (hX:Cl w X 25 [.slice b n c]) {B a:Nat} (h:w.cell? ⟨B,a,none⟩=some (.string s)):B≠X:=fun e=>by
 subst e;rw [hX.cell] at h;rcases a with _ | a <;> simp at h
theorem Yf {A:Nat} {w:World} {x y:Value} {X n c:Nat} {b:Option Addr} (h:Yh A w x) (hX:Cl w X 25 [.slice b n c]):Yh A (w.setCell ⟨X,0,none⟩ y) x:=by
 obtain ⟨a,cap,fs,h1,h2,h3⟩:=h;refine ⟨a,cap,fs,h1,?_,h3⟩;rcases h2 with h2 | ⟨B,e,m,l,k⟩
 · exact .inl h2
 refine .inr ⟨B,e,m,by simpa using l,fun i g=>?_⟩;obtain ⟨d,f⟩:=k i g;have hne:=zN hX (j:=0) d;exact ⟨(O_ _ _ _ _ X0).trans d,(O_ _ _ _ _ X0).trans f⟩
theorem IJ {A:Nat} (v:Value) (nm tx:ByteArray) (w:World) (hA:40<=A/\A<=60) (h:Yh A w v) (r:nm.size<=4000) (g:tx.size<=4000):
 Calls prog 35 #[.agg #[v],.string nm,.string tx] w fun e w'=>(∃ v',e=.returned (.agg #[v'])/\Yh A w' v'/\(v'=v\/∀ k,v'.ownBlock=some k->w.heap.size<=k))/\Below w.heap.size w w':=by
 obtain ⟨a,cap,fs,rfl,z,E,q⟩:=h;have n:=M4 z;have m:=M4 q;clear z q;go_enter func35,ntmps35
 go_wp2_with fail
 obtain ⟨W,f⟩:∃ W:World,W=(w.alloc (.cells #[.slice a fs.length cap] 25)).alloc (.cells #[.slice none 0 0] 25):=⟨_,rfl⟩;rw [<- f];have b0:Below w.heap.size w W:=by rw [f];exact bA.alloc X0 _
 have C0:Hid (Cl W w.heap.size 25 [.slice a fs.length cap]):=by show Cl _ _ _ _;rw [f];exact J_ (U1 w [_] 25) _
 have b:Hid (Cl W (w.heap.size+1) 25 [.slice none 0 0]):=by show Cl _ _ _ _;rw [f];exact Uf (xs:=[_]) X0
 clear f;refine (c15 a cap fs ⟨nm,tx⟩ W O0 (ll m.out) ⟨r,g⟩ (G.T.U0 n.out b0)).mono ?_;rintro e w1 ⟨⟨v',c,gs,rfl,i,hgl,s,_⟩,d⟩;have K:Hid (Yh A w1 v'):=WB i O0 (fun y C=>by rcases s y C with h | h;exact m.out y h;rw [h];exact ⟨r,g⟩);have L:Hid (Yh A w1 (.slice a fs.length cap)):=⟨a,cap,fs,rfl,G.T.U0 (G.T.U0 n.out b0) d,E,m.out⟩;have B1:=M4 (bT b0 d);have C0:=M4 (C0.out.below d C0.out.lt);have b:=M4 (b.out.below d b.out.lt);obtain ⟨va,B,rfl⟩:=Nc i;have N:Hid (∀ k,(Value.slice va gs.length B).ownBlock=some k->w.heap.size<=k):=fun k e=>Z4 b0.size (i.lt k e).1;clear i s d b0 n;have J:=C0.out.cell 0;have l:=b.out.cell 0;have f1:=b.out.opn 0;have hz:=b.out.lt;dsimp only [List.getElem?_cons_zero] at J l;have hz0:=C0.out.lt;have fin:∀ (u:World) (x:Value) (j:Array Value),j[6]?=some (.pointer (some ⟨w.heap.size+1,0,none⟩))->u.cell? ⟨w.heap.size+1,0,none⟩=some x->Yh A u x->(x=.slice a fs.length cap\/∀ k,x.ownBlock=some k->w.heap.size<=k)->Below w.heap.size w u->bodyPost prog f35 (fun e w'=>(∃ v',e=.returned (.agg #[v'])/\Yh A w' v'/\(v'=.slice a fs.length cap\/∀ k,v'.ownBlock=some k->w.heap.size<=k))/\Below w.heap.size w w') .ret ⟨j,[]⟩ u:=fun u x j I D g F H=>K4 (v:=.agg #[x]) (by simp [results,results35,go_sem,D,I]) rfl ⟨⟨x,rfl,g,F⟩,H⟩;have p:∀ (x:Value) (o:Obj),Yh A w1 x->Yh A ((w1.setCell ⟨w.heap.size+1,0,none⟩ x).alloc o) x:=fun x o h=>(Yf h b.out).below bA;by_cases t:c=0
 · subst t
   go_wp2;exact fin _ _ _ rfl ((Sn _ _ _ J4).trans (O7 _ _ _ l)) (p _ _ K.out) (.inr N.out) ((B1.out.setCell (by show _<=w.heap.size+1;omega) _).alloc J4 _)
 have hcb:(c !=0)=true:=by simpa using t
 go_wp2;exact fin _ _ _ rfl ((Sn _ _ _ J4).trans (O7 _ _ _ l)) (p _ _ L.out) (.inl rfl) ((B1.out.setCell (by show _<=w.heap.size+1;omega) _).alloc J4 _)
theorem yA (s:ByteArray) (a b:Nat):(s.extract a b).size<=s.size:=by rw [ByteArray.size_extract];omega
def DF:List Value:=[.string ⟨#[32]⟩,.string ⟨#[10]⟩,.string ⟨#[34]⟩,.string ⟨#[92]⟩,.string ⟨#[48]⟩,.string ⟨#[120]⟩,.string ⟨#[58]⟩,.string ⟨#[0]⟩]
def Hu (N:Nat) (v:Value):Bool:=match v with | .string z=>decide (z.size<=N) | _=>false
theorem fe (l:List Value) (N:Nat) (h:l.all (Hu N)=true) {r:Int} (h0:0<=r) (h1:r<(l.length:Int)):∃ z:ByteArray,l[r.toNat]?=some (.string z)/\z.size<=N:=by
 have b:r.toNat<l.length:=O0;have a:=Nf.1 h _ (Ea b);unfold Hu at a;split at a
 · rename_i z c
   exact ⟨z,by rw [F8 b,c],by simpa using a⟩
 cases a
theorem nP (y:Int):(strOfNums [y]).size=1:=rfl
theorem YH {r:Int} {n:Nat} (h0:0<=r) (h1:r<256) (hn:n<=1000):∃ i:Nat,wrap64 ((wrap64 (r*((n:Int)+1))).tdiv 256)=(i:Int)/\i<=n:=by
 have h2:0<=r*((n:Int)+1):=Int.mul_nonneg h0 O0;have h3:r*((n:Int)+1)<=255*((n:Int)+1):=Int.mul_le_mul_of_nonneg_right O0 O0;generalize r*((n:Int)+1)=m at*;have b:wrap64 m=m:=by unfold wrap64;omega
 rw [b,bv h2];have a:wrap64 (m / 256)=m / 256:=by unfold wrap64;omega
 exact ⟨(m / 256).toNat,by rw [a];omega,O0⟩
theorem kR (q P:Nat) (s:ByteArray) (w:World) (hp:P<=100000) (U:s.size<=1000) (J:D6 w q P):
 Calls prog 97 #[.pointer (some ⟨q,0,none⟩),.string s] w fun e w'=>(∃ x:ByteArray,e=.returned (.string x)/\x.size<=2010)/\D6 w' q (P+3)/\But q w w':=by
 have Q:=Q0 J;clear J;go_enter func97,ntmps97
 go_wp2_with fail
 refine (X5 w q P 256 O0 O0 O0 Q.out).mono ?_;rintro e w1 ⟨⟨r,rfl,h0,h1⟩,v,ho⟩;have v:=Q0 v;have B1:=Q0 ho.but;clear ho Q;obtain ⟨i,hE,hi⟩:=YH (n:=s.size) h0 h1 U
 go_wp2_with fail
 refine (X5 w1 q (P+1) 5 O0 O0 O0 v.out).mono ?_;rintro e h ⟨⟨p,rfl,h20,h21⟩,d,ho⟩;have d:=Q0 d;have B2:=Q0 (B1.out.trans ho.but);clear ho v B1;rw [hE];generalize wrap64 (r*((s.size:Int)+1))=mm at*;clear hE h0 h1;have F:=yA s 0 i;have Y:=yA s i s.size;have N:=yA s (i+1) s.size;have hw1:IntKind.i64.wrap ((i:Int)+1)=(i:Int)+1:=by simp [IntKind.wrap,IntKind.signed,IntKind.bits];omega
 have h01:0<=(i:Int)+1:=O0;have I:=trivial;obtain rfl | rfl | rfl | rfl | rfl:p=0\/p=1\/p=2\/p=3\/p=4:=O0
 · go_wp2
   go_ret;exact ⟨⟨_,rfl,O0⟩,d.out.mono O0,B2.out⟩
 · go_wp2_with fail
   refine F7 (S:=fun _=>True) U2 trivial fun a=>?_;obtain ⟨u,l⟩:∃ u:World,u=h.drew:=⟨_,rfl⟩;rw [<- l];have j:Below h.heap.size h u:=by rw [l];exact (F4 _ _).drew
   clear l;refine tq 0 a ?_;refine tq 1 a ?_;refine I4 2 a ?_;refine tq 4 a ?_;refine tq 9 a ?_;refine I4 10 a ?_;refine I4 11 a ?_;refine Ma (rs:=[3,5]) U2 X0 (x8 (o:=⟨some 25,_,79,_,_,none⟩) rfl (fun K b=>?_) (x8 (o:=⟨some 27,.call ⟨.value (.func 34),#[.tmp 26,.const (.int .i64 8)],#[67,3]⟩,3,_,_,none⟩) rfl (fun K b=>?_) Ra))
   all_goals generalize s.extract 0 i=k at F ⊢
   all_goals generalize s.extract i s.size=m at Y ⊢
   go_simp;obtain ⟨y,g⟩:∃ y:World,y=u.alloc (.cells #[.string ⟨#[32]⟩,.string ⟨#[10]⟩,.string ⟨#[34]⟩,.string ⟨#[92]⟩,.string ⟨#[48]⟩,.string ⟨#[120]⟩,.string ⟨#[58]⟩,.string ⟨#[0]⟩] 9):=⟨_,rfl⟩;rw [<- g];have O:Below h.heap.size h y:=by rw [g];exact j.alloc j.size _
   have Z:Hid (Cl y u.heap.size 9 DF):=by show Cl _ _ _ _;rw [g];exact U1 u _ 9
   have hqy:=(d.out.later j).lt;clear g a;refine Z6 b trivial fun a=>?_;clear b K;refine rq 5 fun K b=>?_;go_simp;refine (X5 y q (P+2) 8 O0 O0 O0 (d.out.later O)).mono ?_;rintro e f ⟨⟨C,rfl,E,D⟩,c,ho⟩;have c:=Q0 c;have B3:=Q0 ((B2.out.later O).trans ho.but);have A:Hid (Cl f u.heap.size 9 DF):=(ho.block _ O0).trans Z.out;clear ho a;go_simp;refine Z6 b trivial fun a=>?_;clear b K;generalize u.heap.size=B at A ⊢;revert I;rotate_left;go_simp;refine (X5 u q (P+2) 8 O0 O0 O0 (d.out.later j)).mono ?_;rintro e f ⟨⟨C,rfl,E,D⟩,c,ho⟩;have c:=Q0 c;have B3:=Q0 ((B2.out.later j).trans ho.but);clear ho a;go_simp;refine Z6 b trivial fun a=>?_;clear b K;refine rq 3 fun K b=>?_;go_simp;obtain ⟨y,g⟩:∃ y:World,y=f.alloc (.cells #[.string ⟨#[32]⟩,.string ⟨#[10]⟩,.string ⟨#[34]⟩,.string ⟨#[92]⟩,.string ⟨#[48]⟩,.string ⟨#[120]⟩,.string ⟨#[58]⟩,.string ⟨#[0]⟩] 9):=⟨_,rfl⟩;rw [<- g];have H:Below f.heap.size f y:=by rw [g];exact bA
   have A:Hid (Cl y f.heap.size 9 DF):=by show Cl _ _ _ _;rw [g];exact U1 f _ 9
   have c:=M4 (c.out.later H);have B3:=M4 (B3.out.later H);clear g a;refine Z6 b trivial fun a=>?_;clear b K;generalize f.heap.size=B at A ⊢;clear H;generalize y=f at*;revert I
   all_goals
    intro _;obtain ⟨z,t,R⟩:=fe DF 1 K3 E (by simpa [DF] using D);have cz:=(A.out.cell C.toNat).trans t;have L:¬9223372036854775807<k.size+z.size:=O0;have V:¬9223372036854775807<k.size+z.size+m.size:=O0;refine I4 6 a ?_;refine rq 7 fun K b=>?_;go_simp;refine Z6 b trivial fun a=>?_;clear b K;refine tq 8 a ?_;refine tq 12 a ?_;refine I4 13 a ?_;refine a_ ?_;go_wp2;go_ret;exact ⟨⟨_,rfl,by rw [K9,K9];omega⟩,c.out,B3.out⟩
 · by_cases W:i<s.size
   · have X:(i:Int)+1<=(s.size:Int):=O0
     go_wp2_with fail
     refine F7 (S:=fun _=>True) U2 trivial fun a=>?_;refine tq 0 a ?_;refine tq 1 a ?_;refine I4 2 a ?_;refine tq 3 a ?_;refine tq 4 a ?_;refine I4 5 a ?_;refine I4 6 a ?_;generalize s.extract 0 i=k at F ⊢;generalize s.extract (i+1) s.size=m at N ⊢;have L:¬9223372036854775807<k.size+m.size:=O0;refine tq 7 a ?_;refine I4 8 a ?_;refine a_ ?_;go_wp2;go_ret;exact ⟨⟨_,rfl,by rw [K9];omega⟩,d.out.later (F4 _ _).drew|>.mono O0,B2.out.later (F4 _ _).drew⟩
   go_wp2;go_ret;exact ⟨⟨_,rfl,by rw [K9];omega⟩,d.out.mono O0,B2.out⟩
 · by_cases W:i<s.size
   · have X:(i:Int)+1<=(s.size:Int):=O0
     go_wp2_with fail
     refine F7 (S:=fun _=>True) U2 trivial fun a=>?_;obtain ⟨u,l⟩:∃ u:World,u=h.drew:=⟨_,rfl⟩;rw [<- l];have j:Below h.heap.size h u:=by rw [l];exact (F4 _ _).drew
     clear l;refine tq 0 a ?_;refine tq 1 a ?_;refine I4 2 a ?_;refine tq 3 a ?_;refine tq 4 a ?_;refine I4 5 a ?_;refine tq 6 a ?_;refine tq 7 a ?_;refine I4 16 a ?_;refine tq 17 a ?_;refine tq 18 a ?_;refine I4 19 a ?_;refine rq 8 fun K b=>?_;go_simp;refine (X5 u q (P+2) 8 O0 O0 O0 (d.out.later j)).mono ?_;rintro e f ⟨⟨C,rfl,E,D⟩,c,ho⟩;have c:=Q0 c;have B3:=Q0 ((B2.out.later j).trans ho.but);clear ho a;go_simp;refine Z6 b trivial fun a=>?_;clear b K;generalize s.extract 0 i=k at F ⊢;generalize s.extract (i+1) s.size=m at N ⊢;refine tq 9 a ?_;refine tq 10 a ?_;refine tq 11 a ?_;refine I4 12 a ?_;refine rq 13 fun K b=>?_;go_simp;refine Z6 b trivial fun a=>?_;clear b K;refine rq 14 fun K b=>?_;go_simp;rw [zx];go_simp;refine Z6 b trivial fun a=>?_;clear b K;generalize t:strOfNums [_]=z;have R:z.size<=1:=by rw [<- t,nP];exact Q6 _
     clear t;have L:¬9223372036854775807<k.size+z.size:=O0;have V:¬9223372036854775807<k.size+z.size+m.size:=O0;refine tq 15 a ?_;refine tq 20 a ?_;refine I4 21 a ?_;refine a_ ?_;go_wp2;go_ret;exact ⟨⟨_,rfl,by rw [K9,K9];omega⟩,c.out.later bA,B3.out.later bA⟩
   go_wp2;go_ret;exact ⟨⟨_,rfl,by rw [K9];omega⟩,d.out.mono O0,B2.out⟩
 go_wp2;go_ret;exact ⟨⟨_,rfl,by rw [K9];omega⟩,d.out.mono O0,B2.out⟩
def SR (n:Nat) (xs:List Value):Prop:=xs.length=n*2/\∀ v∈xs,Hu 4000 v=true
theorem L9 {N:Nat} {v:Value}:Hu N v=true↔∃ s:ByteArray,v=.string s/\s.size<=N:=by
 unfold Hu;constructor
 · intro h
   split at h
   · rename_i z;exact ⟨z,rfl,by simpa using h⟩
   cases h
 rintro ⟨s,rfl,h⟩;simpa using h
theorem SR.get {n j:Nat} {xs:List Value} (h:SR n xs) (c:j<n*2):∃ s:ByteArray,xs[j]?=some (.string s)/\s.size<=4000:=by
 have a:j<xs.length:=by rw [h.1];exact c
 obtain ⟨s,e,b⟩:=L9.1 (h.2 _ (Ea a));exact ⟨s,by rw [F8 a,e],b⟩
theorem SR.set {n:Nat} {xs:List Value} (h:SR n xs) (j:Nat) {s:ByteArray} (a:s.size<=4000):SR n (xs.set j (.string s)):=
 ⟨by rw [Ed];exact h.1,fun v hv=>by
  rcases Sv hv with h1 | h1
  · exact h.2 v h1
  rw [h1];exact L9.2 ⟨s,rfl,a⟩⟩
theorem SR.app {n:Nat} {xs:List Value} (h:SR n xs) {a b:ByteArray} (d:a.size<=4000) (c:b.size<=4000):SR (n+1) (xs++[.string a,.string b]):=
 ⟨by have:=h.1;simp;omega,fun v hv=>by
  rcases P8.1 hv with h1 | h1
  · exact h.2 v h1
  simp at h1;rcases h1 with rfl | rfl
  · exact L9.2 ⟨_,rfl,d⟩
  exact L9.2 ⟨_,rfl,c⟩⟩
theorem SR.fi:∀ {n:Nat} {xs:List Value},SR n xs->∃ gs:List F2,gs.length=n/\xs=Ag gs/\∀ x∈gs,x.le 4000
 | 0,xs,h=>⟨[],rfl,by simpa [Ag] using h.1,fun x h=>nomatch h⟩
 | n+1,[],h=>by simp [SR] at h
 | n+1,[_],h=>by have:=h.1;simp at this;omega
 | n+1,x::y::r,h=>by
  obtain ⟨a,rfl,d⟩:=L9.1 (h.2 x X0);obtain ⟨b,rfl,c⟩:=L9.1 (h.2 y X0);obtain ⟨gs,h1,h2,h3⟩:=SR.fi (n:=n) (xs:=r) ⟨by have:=h.1;simp at this;omega,fun v hv=>h.2 v (by simp [hv])⟩;exact ⟨⟨a,b⟩::gs,by simp [h1],by rw [h2];rfl,fun x hx=>by rcases D_.1 hx with rfl | hx;exact ⟨d,c⟩;exact h3 x hx⟩
theorem NM {gs:List F2} (h:∀ x∈gs,x.le 4000):SR gs.length (Ag gs):=⟨Du gs,fun v hv=>by
 obtain ⟨x,hx,h1⟩:=Tk.1 hv;simp at h1;rcases h1 with rfl | rfl
 · exact L9.2 ⟨_,rfl,(h x hx).1⟩
 exact L9.2 ⟨_,rfl,(h x hx).2⟩⟩
theorem qL {w u:World} {a:Option Addr} {cap:Nat} {fs:List F2} (h:F3 w a fs) (k:Below w.heap.size w u):Src u (.slice a fs.length cap) 2 fs.length (Ag fs):=by
 rcases h with h | ⟨b,d,h1,h2,h3⟩
 · subst h
   cases a with
   | none=>exact .inl ⟨⟨cap,rfl⟩,rfl,rfl⟩
   | some ad=>exact .inr ⟨ad,cap,rfl,rfl,fun j v e=>by simp [Ag] at e⟩
 subst h1;refine (.inr ⟨⟨b,d,none⟩,cap,rfl,Du fs,fun j v e=>?_⟩);have hj:j<fs.length*2:=by have:=(Jd.1 e).1;rwa [Du] at this
 rw [Qj,k.cell h2];obtain ⟨g,f⟩:=h3 (j / 2) O0;rcases KE j with i | i
 · have c:j=j / 2*2:=O0
   rw [c,Vu fs _ O0] at e;rw [c,g];exact e
 have c:j=j / 2*2+1:=O0;rw [c,Rx fs _ O0] at e;rw [c,<- xk,f];exact e
theorem NQ {A:Nat} (v:Value) (w:World) (hA:A<=60) (h:Yh A w v):
 Calls prog 69 #[.agg #[v]] w fun e w'=>(∃ v' n xs,e=.returned (.agg #[v'])/\w'.ownsRow w.heap.size 39 2 v' n xs/\SR n xs/\n<=A)/\Below w.heap.size w w':=by
 obtain ⟨a,cap,fs,rfl,k,s,i⟩:=h;have z:=M4 k;have y:=M4 i;clear k i;go_enter func69,ntmps69;obtain ⟨W,c⟩:∃ W:World,W=((w.alloc (.cells #[.slice a fs.length cap] 25)).alloc (.cells #[.slice none 0 0] 25)).alloc (.cells #[] 39):=⟨_,rfl⟩;have m:Below w.heap.size w W:=by rw [c];exact (bA.alloc X0 _).alloc J4 _
 have g:Hid (Cl W (w.heap.size+1) 25 [.slice none 0 0]):=by show Cl _ _ _ _;rw [c];exact J_ (Uf (xs:=[_]) X0) _
 have p:Hid (W.ownsRow (w.heap.size+2) 39 2 (.slice (some ⟨w.heap.size+1+1,0,none⟩) 0 0) 0 []):=by
  have:=row0 ((w.alloc (.cells #[.slice a fs.length cap] 25)).alloc (.cells #[.slice none 0 0] 25)) 39 2 (base:=w.heap.size+2) X0;show World.ownsRow _ _ _ _ _ _ _;rw [c];simpa using this
 have u:=M4 (qL (cap:=cap) z.out m)
 go_wp2_with (at_builtin;rw [<- c];refine Ve rfl _ _ 23 rfl (w.heap.size+2) 39 2 underlying23 Kl K3 _ 0 [] rfl p.out _ fs.length (Ag fs) rfl u.out (Zq fs) O0 g.out.lt ?_;intro v' r d g6 _;have o:=ai (Below.refl (w.heap.size+2) W) g6 g.out.lt (fun j e=>(p.out.lt j e).1);have q:=g.out.below o O0;have l:=q.cell 0;have f6:=q.opn 0;have d:=M4 d;obtain ⟨va,f,rfl⟩:=Nc d.out;dsimp only [List.getElem?_cons_zero] at l;clear g6)
 have t:=O7 r ⟨w.heap.size+1,0,none⟩ (.slice va fs.length f) l;refine K4 (v:=.agg #[.slice va fs.length f]) (by simp [results,results69,go_sem,t]) rfl ⟨⟨_,fs.length,Ag fs,rfl,?_,NM y.out,s⟩,?_⟩
 · have h:=D5 (Al (b:=w.heap.size+1) (j:=0) (x:=.slice va fs.length f) d.out O0) (B':=w.heap.size) O0
   simpa using h
 exact (m.trans (o.mono O0)).setCell (by show _<=w.heap.size+1;omega) _
theorem bn {w:World} {base X j:Nat} {e:TypeId} {size:Nat} {v y:Value} {n:Nat} {xs:List Value} (h:w.ownsRow base e size v n xs) (hv:v.ownBlock≠some X):(w.setCell ⟨X,j,none⟩ y).ownsRow base e size v n xs:=by
 refine ⟨h.1,h.2.imp id ?_⟩;rintro ⟨g,cap,cur,h1,h2,h3,a⟩;exact ⟨g,cap,cur,h1,h2,(Xq _ _ _ _ (fun e=>hv (by rw [h1];exact V3 some e))).trans h3,a⟩
structure Sp (q P:Nat) (w:World) (X n:Nat) (v:Value) (xs:List Value) (u:World):Prop where
 rd:D6 u q P
 bu:But q w u
 qw:q<w.heap.size
 h1:Cl u (w.heap.size+1) 25 [.slice none 0 0]
 h2:Cl u X 25 [v]
 hX:w.heap.size+2<=X
 ho:u.ownsRow (w.heap.size+2) 39 2 v n xs
 sr:SR n xs
variable {q P P' X n:Nat} {w u u':World} {v v':Value} {xs:List Value}
theorem Sp.call (h:Sp q P w X n v xs u) (b:D6 u' q P') (a:But q u u'):Sp q P' w X n v xs u':=by
 have:=h.qw;have:=h.hX;exact ⟨b,h.bu.trans a,h.qw,(a.block _ h.h1.lt O0).trans h.h1,(a.block _ h.h2.lt O0).trans h.h2,h.hX,Ih h.ho a O0,h.sr⟩
theorem Sp.later (h:Sp q P w X n v xs u) (a:Below u.heap.size u u'):Sp q P w X n v xs u':=h.call (h.rd.later a) (But.of_below a)
theorem row_of {w:World} {base:Nat} {e:TypeId} {size n:Nat} {v:Value} {xs:List Value} (h:w.ownsRow base e size v n xs) {k:Nat} (a:v.ownBlock=some k):∃ cur,w.heap[k]?=some (.cells cur e (0,0)):=by
 rcases h.2 with ⟨rfl,_⟩ | ⟨g,cap,cur,rfl,_,b,_⟩
 · cases a
 obtain rfl:=j6 a;exact ⟨cur,b⟩
theorem Sp.ne (h:Sp q P w X n v xs u) {k:Nat} (a:v.ownBlock=some k):k≠X/\k≠w.heap.size+1/\w.heap.size+2<=k:=by
 obtain ⟨cur,b⟩:=row_of h.ho a;refine ⟨fun e=>?_,fun e=>?_,(h.ho.lt k a).1⟩
 · subst e;have:=b.symm.trans h.h2;cases this
 · subst e;have:=b.symm.trans h.h1;cases this
theorem Sp.gr (h:Sp q P w X n v xs u) (b:u.grownBy u' v.ownBlock) {m:Nat} {ys:List Value} (hr:u'.ownsRow (w.heap.size+2) 39 2 v' m ys) (hs:SR m ys):D6 u' q P/\But q w u'/\Cl u' (w.heap.size+1) 25 [.slice none 0 0]/\Cl u' X 25 [v]:=by
 have a:=ai (F4 (w.heap.size+2) u) b (by have:=h.h2.lt;have:=h.hX;omega) (fun k e=>(h.ne e).2.2);have:=h.qw;refine ⟨h.rd.H_ a O0,h.bu.H_ a O0,h.h1.below a O0,(b.block X h.h2.lt (fun e=>?_)).trans h.h2⟩;exact (h.ne e.symm).1 rfl
theorem Sp.put (h:Sp q P w X n v xs u) (j:u.grownBy u' v.ownBlock) {m:Nat} {ys:List Value} (b:u'.ownsRow (w.heap.size+2) 39 2 v' m ys) (a:SR m ys) (i:∀ k,v'.ownBlock=some k->k≠X):Sp q P w X m v' ys (u'.setCell ⟨X,0,none⟩ v'):=by
 obtain ⟨g,f,d,c⟩:=h.gr j b a;have:=h.qw;have:=h.hX;exact ⟨J8 g O0 _ _,U7 f O0 _ _,h.qw,d.on (I6 _ _ _ _) O0,c.set 0 v',h.hX,bn b (fun e=>i X e rfl),a⟩
theorem Sp.mg {g c:Nat} (h:Sp q P w X n (.slice (some ⟨g,0,none⟩) n c) xs u) (j:Nat) {s:ByteArray} (b:s.size<=4000):Sp q P w X n (.slice (some ⟨g,0,none⟩) n c) (xs.set j (.string s)) (u.setCell ⟨g,j,none⟩ (.string s)):=by
 obtain ⟨a,d⟩:=h.ho.stored j (.string s);obtain ⟨i,a2,f,e⟩:=h.gr (v':=.slice (some ⟨g,0,none⟩) n c) d a (h.sr.set j b);exact ⟨i,a2,h.qw,f,e,h.hX,a,h.sr.set j b⟩
theorem Sp.fin {A:Nat} (h:Sp q P w X n v xs u) (a:n<=A):D6 (u.setCell ⟨w.heap.size+1,0,none⟩ v) q P/\But q w (u.setCell ⟨w.heap.size+1,0,none⟩ v)/\Yh A (u.setCell ⟨w.heap.size+1,0,none⟩ v) v/\∀ k,v.ownBlock=some k->w.heap.size<=k:=by
 obtain ⟨gs,rfl,rfl,b⟩:=h.sr.fi;have:=h.qw;exact ⟨J8 h.rd O0 _ _,U7 h.bu O0 _ _,WB (bn h.ho (fun e=>(h.ne e).2.1 rfl)) a b,fun k e=>by have:=(h.ne e).2.2;omega⟩
end Go.Proofs.YtdjaajjndfbpmaaGreatDoor
namespace Go.Proofs.YtdjaajjndfbpmaaGreatDoor
open Proofs.Tryz
open Go.RowKit
def Vo:List Value:=[.string ⟨#[97]⟩,.string ⟨#[98]⟩,.string ⟨#[99]⟩,.string ⟨#[97]⟩,.string ⟨#[120,52]⟩,.string ⟨#[99]⟩,.string ⟨#[120,48]⟩,.string ⟨#[120,49]⟩,.string ⟨#[120,50]⟩,.string ⟨#[120,51]⟩,.string ⟨#[103,111,110,101]⟩,.string ⟨#[112,108,97,110]⟩]
theorem RO (q P:Nat) (w:World) (hp:P<=90000) (g:D6 w q P):
 Calls prog 100 #[.pointer (some ⟨q,0,none⟩)] w fun e w'=>(∃ x:ByteArray,e=.returned (.string x)/\x.size<=20)/\D6 w' q (P+2)/\But q w w':=by
 have B:=M4 g;have hq:=g.lt;clear g;go_enter func100,ntmps100
 go_wp2_with fail
 obtain ⟨f,b⟩:∃ y:World,y=w.alloc (.cells Vo.toArray 9):=⟨_,rfl⟩;change Code.wp _ _ _ _ (w.alloc (.cells Vo.toArray 9));rw [<- b];have b0:Below w.heap.size w f:=by rw [b];exact bA
 have C0:Hid (Cl f w.heap.size 9 Vo):=by show Cl _ _ _ _;rw [b];exact U1 w _ 9
 clear b;refine F7 (S:=fun u=>Cl u w.heap.size 9 Vo) U2 C0.out fun a=>?_;obtain ⟨l,b⟩:∃ y:World,y=f.drew:=⟨_,rfl⟩;rw [<- b] at a ⊢;have b1:Below w.heap.size w l:=by rw [b];exact b0.drew
 clear b b0 C0;refine tq 0 a ?_;refine tq 1 a ?_;refine tq 6 a ?_;refine I4 7 a ?_;refine rq 2 fun K c=>?_;go_simp;refine (X5 l q P 12 O0 O0 O0 (B.out.later b1)).mono ?_;rintro e k ⟨⟨r1,rfl,t,s⟩,i,ho⟩;have i:=M4 i;have B2:=Q0 ((But.of_below b1).trans ho.but);have D:Cl k w.heap.size 9 Vo:=(ho.block _ O0).trans a;clear ho a;go_simp;refine Z6 c D fun a=>?_;clear c K;obtain ⟨j,A,hs1⟩:=fe Vo 4 K3 t s;refine I4 3 a ?_;refine tq 4 a ?_ (v:=?_) (hv:=?e)
 case e=>intro wq hSw;have d:=(hSw.cell r1.toNat).trans A;go_simp;try with_reducible rfl
 have hn1:¬9223372036854775807<j.size+1:=O0
 try simp only [qq]
 refine I4 5 a ?_;refine rq 8 fun K c=>?_;go_simp;refine (X5 k q (P+1) 12 O0 O0 O0 i.out).mono ?_;rintro e n ⟨⟨r,rfl,p,o⟩,h,ho⟩;have h:=M4 h;have B3:=M4 (B2.out.trans ho.but);have C:Cl n w.heap.size 9 Vo:=(ho.block _ O0).trans a;clear ho a;go_simp;refine Z6 c C fun a=>?_;clear c K;obtain ⟨m,z,hs2⟩:=fe Vo 4 K3 p o;generalize hZ:(j++⟨#[10]⟩:ByteArray)=Z;have hZs:Z.size<=5:=by rw [<- hZ,K9];have:ByteArray.size ⟨#[10]⟩=1:=rfl;omega
 clear hZ;refine I4 9 a ?_;refine tq 10 a ?_ (v:=?_) (hv:=?e)
 case e=>intro wq hSw;have d:=(hSw.cell r.toNat).trans z;go_simp;try with_reducible rfl
 have hn2:¬9223372036854775807<Z.size+m.size:=O0
 try simp only [qq]
 refine tq 11 a ?_;refine I4 12 a ?_;refine a_ ?_;go_wp2;go_ret;exact ⟨⟨_,rfl,by rw [K9];omega⟩,h.out,B3.out⟩
def GM (v:Value):Bool:=match v with | .int .i64 z=>decide (0<=z/\z<100) | _=>false
theorem uI (l:List Value) (h:l.all GM=true) {r:Int} (h0:0<=r) (h1:r<(l.length:Int)):∃ z:Nat,l[r.toNat]?=some (.int .i64 (z:Int))/\z<100:=by
 have b:r.toNat<l.length:=O0;have a:=Nf.1 h _ (Ea b);unfold GM at a;split at a
 · rename_i z c
   have a:0<=z/\z<100:=by simpa using a
   exact ⟨z.toNat,by rw [F8 b,c,Int.toNat_of_nonneg a.1],O0⟩
 cases a
def FD:List Value:=[.int .i64 0,.int .i64 1,.int .i64 1,.int .i64 2,.int .i64 2,.int .i64 3,.int .i64 3,.int .i64 4,.int .i64 5]
def XD:List Value:=[.string ⟨#[97]⟩,.string ⟨#[119]⟩,.string ⟨#[112,108,97,110]⟩,.string ⟨#[103,111,110,101]⟩,.string ⟨#[116,48]⟩,.string ⟨#[]⟩,.string ⟨#[120,32,121]⟩]
theorem yQ (q P:Nat) (w:World) (hp:P<=90000) (n:D6 w q P):
 Calls prog 45 #[.pointer (some ⟨q,0,none⟩)] w fun e w'=>(∃ x:ByteArray,e=.returned (.string x)/\x.size<=20)/\D6 w' q (P+2)/\But q w w':=by
 have u:=M4 n;clear n;go_enter func45,ntmps45
 go_wp2_with fail
 refine (X5 w q P 5 O0 O0 O0 u.out).mono ?_;rintro e w1 ⟨⟨r,rfl,r0,r1⟩,f,ho⟩;have f:=M4 f;have B1:=M4 ho.but;have hq:=f.out.lt;clear ho u;have la:∀ (l:List Value) (t:TypeId),D6 (w1.alloc (.cells l.toArray t)) q (P+1)/\But q w (w1.alloc (.cells l.toArray t)):=fun l t=>⟨f.out.later bA,B1.out.later bA⟩;by_cases h:0<r
 · go_wp2_with fail
   refine (X5 (w1.alloc (.cells FD.toArray 3)) q (P+1) 9 O0 O0 O0 (la FD 3).1).mono ?_;rintro e c ⟨⟨j,rfl,i,g⟩,a,ho⟩;have a:=M4 a;have B2:=M4 ((la FD 3).2.trans ho.but);have b:Cl c w1.heap.size 3 FD:=(ho.block _ O0).trans (U1 w1 FD 3);obtain ⟨m,p,o⟩:=uI FD K3 i g;have d:=(b.cell j.toNat).trans p;have hdl:(Q3 (Lib.decDigits m)).size<=2:=by rw [J3];exact Sa m o
   clear ho p b
   go_wp2_with fail
   refine (Rs m c o).mono ?_;rintro e w3 ⟨rfl,s⟩;go_wp2;go_ret;exact ⟨⟨_,rfl,by rw [K9];have e1:ByteArray.size ⟨#[120]⟩=1:=rfl;omega⟩,a.out.later s,B2.out.later s⟩
 obtain rfl:r=0:=O0
 go_wp2_with fail
 refine (X5 (w1.alloc (.cells XD.toArray 9)) q (P+1) 7 O0 O0 O0 (la XD 9).1).mono ?_;rintro e c ⟨⟨j,rfl,i,g⟩,a,ho⟩;have a:=M4 a;have B2:=M4 ((la XD 9).2.trans ho.but);have b:Cl c w1.heap.size 9 XD:=(ho.block _ O0).trans (U1 w1 XD 9);obtain ⟨z,k,hzs⟩:=fe XD 4 K3 i g;have d:=(b.cell j.toNat).trans k;clear ho k b;go_wp2;go_ret;exact ⟨⟨_,rfl,O0⟩,a.out,B2.out⟩
end Go.Proofs.YtdjaajjndfbpmaaGreatDoor
