import Derived.Test.YtdpoaadafcaffaaGreatDoorWD
import Derived.Test.YtdpoaadafcaffaaGreatDoorZ27
import Derived.Test.YtdpoaadafcaffaaGreatDoorZ39
set_option linter.unusedVariables false
set_option maxHeartbeats 8000000
set_option maxRecDepth 100000
namespace Go.Proofs.YtdpoaadafcaffaaGreatDoor
open Proofs.Tryz
open Go.RowKit
open G.T (F2 L6 U3 U7)
def Xd (fs:List F2):List Value:=fs.flatMap fun x=>[.string x.nm,.string x.tx]
theorem J5 {p:Prop} (h:p):Hid p:=h
theorem Tp (fs:List F2):(Xd fs).length=fs.length*2:=by induction fs <;> simp_all [Xd];omega
theorem jB (fs:List F2) (x:F2):Xd (fs++[x])=Xd fs++[.string x.nm,.string x.tx]:=by simp [Xd]
theorem Jh:Inf prog 75 2:=Jf I1
theorem qg {w:World} {B:Nat} {xs:List Value} {t:TypeId} (h:B=w.heap.size):Cl (w.alloc (.cells xs.toArray t)) B t xs:=h▸F3 w xs t
theorem Lb {w:World} {base:Nat} {e:TypeId} {size n:Nat} {v:Value} {xs:List Value} (h:w.ownsRow base e size v n xs):∃ a c,v=.slice a n c:=by
 rcases h.2 with ⟨rfl,rfl⟩ | ⟨g,cap,cur,rfl,_⟩
 · exact ⟨_,_,rfl⟩
 exact ⟨_,_,rfl⟩
theorem Vf {B:Nat} {w u u':World} {v:Value} (h:Below B w u) (g:u.grownBy u' v.ownBlock) (hz:B<=u.heap.size) (hv:∀ k,v.ownBlock=some k->B<=k):Below B w u':=
 ⟨g.os.trans h.os,g.tape.trans h.tape,g.output.trans h.output,Nat.le_trans h.size g.size,fun k hk=>(g.block k O0 (fun e=>by have:=hv k e.symm;omega)).trans (h.block k hk)⟩
structure W6 (w:World) (A v:Value) (gs:List F2) (u:World):Prop where
 b:Below w.heap.size w u
 h0:Cl u w.heap.size 25 [A]
 h1:Cl u (w.heap.size+1) 25 [.slice none 0 0]
 h2:Cl u (w.heap.size+1+1) 25 [v]
 ho:u.ownsRow (w.heap.size+3) 75 2 v gs.length (Xd gs)
theorem W6.below {w:World} {A v:Value} {gs:List F2} {u u':World} (h:W6 w A v gs u) (hb:Below u.heap.size u u'):W6 w A v gs u':=
 ⟨h.b.trans (hb.mono h.b.size),h.h0.below hb h.h0.lt,h.h1.below hb h.h1.lt,h.h2.below hb h.h2.lt,ownsRow_below h.ho hb⟩
theorem W6.app {w:World} {A v v':Value} {gs:List F2} {x:F2} {u u':World} (h:W6 w A v gs u) (hr:u'.ownsRow (w.heap.size+3) 75 2 v' (gs.length+1) (Xd gs++[.string x.nm,.string x.tx])) (hg:u.grownBy u' v.ownBlock):Below (w.heap.size+3) u u'/\W6 w A v' (gs++[x]) (u'.setCell ⟨w.heap.size+1+1,0,none⟩ v'):=by
 have k:∀ j,v.ownBlock=some j->w.heap.size+3<=j:=fun j e=>(h.ho.lt j e).1;have hB:=Vf (Below.refl (w.heap.size+3) u) hg h.h2.lt k;have c2:=h.h2.below hB O0;have hs:=(Below.refl (w.heap.size+1+1) u').setCell (p:=⟨w.heap.size+1+1,0,none⟩) Q8 v';have hB2:Below (w.heap.size+1+1) u _:=(hB.mono O0).trans hs;refine ⟨hB,h.b.trans (hB2.mono O0),h.h0.below hB2 O0,h.h1.below hB2 O0,c2.set 0 v',?_⟩;rw [List.length_append,jB];exact qi hr O0
theorem gJ (a:Option Addr) (cap:Nat) (fs:List F2) (nm:ByteArray) (w:World) (hl:fs.length<=1000) (hat:U3 w a fs):
 Calls prog 136 #[.agg #[.slice a fs.length cap],.string nm] w fun e w'=>(∃ v gs,e=.returned (.agg #[v])/\w'.ownsRow w.heap.size 75 2 v gs.length (Xd gs)/\gs.length<=fs.length/\∀ x∈gs,x∈fs)/\Below w.heap.size w w':=by
 obtain ⟨b,off,hc⟩:=U7 hat;have HC:=J5 hc;clear hc hat;go_enter func136,ntmps136
 go_wp2_with fail
 go_loopw [6] (fun i wr=>∃ (k:Nat) (v:Value) (gs:List F2),i=.int .i64 k/\k<=fs.length/\gs.length<=k/\Hid (∀ x∈gs,x∈fs)/\Hid (W6 w (.slice a fs.length cap) v gs wr)) (fun i _=>fs.length - (intOf i).toNat)
 case atStart=>exact ⟨0,_,[],rfl,Nat.zero_le _,Nat.le_refl _,(fun x h=>nomatch h),⟨(bA.alloc U0 _).alloc X3 _,B_ (B_ (F3 w [_] 25) _) _,B_ (qg (xs:=[_]) U0) _,qg (xs:=[_]) U0,World.ownsRow_nil _ _ _ _⟩⟩
 obtain ⟨k,v,gs,rfl,hk,hg,hsub,H⟩:=hrel;obtain ⟨va,vc,rfl⟩:=Lb H.out.ho;have d0:=H.out.h0.cell 0;have d1:=H.out.h1.cell 0;have f1:=H.out.h1.opn 0;have d2:=H.out.h2.cell 0;dsimp only [List.getElem?_cons_zero] at d0 d1 d2;by_cases hlt:k<fs.length;rotate_left
 · go_wp2
   have er:=World.cell?_setCell_same wr ⟨w.heap.size+1,0,none⟩ (.slice va gs.length vc) d1;refine bodyPost_ret (v:=.agg #[.slice va gs.length vc]) (by simp [results,Tryz.results136,go_sem,er]) rfl ⟨⟨_,gs,rfl,V4 (qi H.out.ho O0) O0,O0,hsub.out⟩,H.out.b.setCell U0 _⟩
 rcases HC.out with hss | ⟨ha,hbw,hcell⟩
 · rw [hss] at hlt;exact absurd hlt (Nat.not_lt_zero _)
 subst ha;have g0:=(H.out.b.cell (p:=⟨b,off+k*2,none⟩) hbw).trans (hcell k hlt).1;have g1:=(H.out.b.cell (p:=⟨b,off+k*2+1,none⟩) hbw).trans (hcell k hlt).2;have HM:Hid (fs.getD k L6∈fs):=by simp [Hid,List.getD,hlt]
 generalize fs.getD k L6=x at*;clear hcell HC;cases hne:(x.nm.toList==nm.toList);rotate_left
 · go_wp2
   go_roundw
   case rel=>exact ⟨k+1,_,gs,by go_num,O0,O0,hsub,H⟩
   case measure=>simp [intOf];omega
 go_wp2_with fail
 refine P7 (S:=fun u=>u.cell? ⟨w.heap.size+1+1,0,none⟩=some (.slice va gs.length vc)/\u.cell? ⟨w.heap.size,0,none⟩=some (.slice (some ⟨b,off,none⟩) fs.length cap)/\u.cell? ⟨b,off+k*2,none⟩=some (.string x.nm)/\u.cell? ⟨b,off+k*2+1,none⟩=some (.string x.tx)) 10 I1 ?_ fun hH=>?_
 · ((try dsimp only);go_keep)
 refine lq 0 hH ?_;refine lq 1 hH ?_;refine lq 2 hH ?_;refine lq 3 hH ?_;refine lq 4 hH ?_;refine lq 5 hH ?_
 try simp only [qq]
 refine lq 6 hH ?_
 try simp only [qq]
 refine lr (i:=7) (o:=⟨some 30,.buildSlice 23 1 #[(0,.tmp 29)],23,_,_,none⟩) rfl J3 I1 fun K hK=>?_;go_simp;obtain ⟨y,hy⟩:∃ y:World,y=(wr.alloc (.cells #[.string x.nm,.string x.tx] 75)).drew:=⟨_,rfl⟩;rw [<- hy];have hby:Below wr.heap.size wr y:=by rw [hy];exact bA.drew
 have HS:Hid (Cl y wr.heap.size 75 [.string x.nm,.string x.tx]):=by show Cl _ _ _ _;rw [hy];exact F3 wr _ 75
 have HY:=J5 (H.out.below hby);have hbz:=H.out.b.size;have e0:=(hby.cell (p:=⟨b,off+k*2,none⟩) (by show b<_;omega)).trans g0;have e1:=(hby.cell (p:=⟨b,off+k*2+1,none⟩) (by show b<_;omega)).trans g1;clear hy hH;refine hK.out _ _ ?_ fun hH=>?_
 · exact ⟨HY.out.h2.cell 0,HY.out.h0.cell 0,e0,e1⟩
 clear hK K
 try simp only [qq]
 refine lr (i:=8) (o:=⟨some 31,.call ⟨.builtin .append,#[.tmp 24,.tmp 30],#[23,23]⟩,23,_,_,none⟩) rfl J3 I1 fun K hK=>?_;refine V9 rfl _ _ 23 rfl (w.heap.size+3) 75 2 underlying23 Jh J3 _ gs.length _ rfl HY.out.ho _ 1 [.string x.nm,.string x.tx] rfl (.inr ⟨⟨wr.heap.size,0,none⟩,1,rfl,rfl,r_ HS.out⟩) (by simp [Value.oneCell']) O0 HY.out.h2.lt ?_;intro v' y2 O2 g2 _;obtain ⟨nW,oW,rfl⟩:=Lb O2;obtain ⟨hB,hZ⟩:=HY.out.app (x:=x) O2 g2;have c2:=HY.out.h2.below hB O0;have HZ:=J5 hZ;clear hZ O2 g2 hH;refine hK.out _ _ ?_ fun hH=>?_
 · exact ⟨c2.cell 0,(HY.out.h0.below hB O0).cell 0,(hB.cell (by show b<_;omega)).trans e0,(hB.cell (by show b<_;omega)).trans e1⟩
 clear hK K
 try simp only [qq]
 refine lq 9 hH ?_
 try simp only [qq]
 refine lz (o:=⟨none,.store 23 (.tmp 32) (.tmp 31),0,_,_,none⟩) rfl I1 fun K hK=>?_;have z2:=c2.cell 0;have zf:=c2.opn 0;dsimp only [List.getElem?_cons_zero] at z2;go_simp;clear hH;refine hK.out _ _ ?_;clear hK K
 try simp only [qq]
 refine F9 I1 ?_ _;go_wp2;go_roundw
 case rel=>exact ⟨k+1,_,gs++[x],by go_num,O0,X3,fun z hz=>by rcases List.mem_append.1 hz with h | h;exact hsub.out z h;exact List.mem_singleton.1 h▸HM.out,HZ⟩
 case measure=>simp [intOf];omega
variable {w u:World} {base size n:Nat} {e t:TypeId} {v:Value} {xs:List Value}
theorem row0 (w:World) (e:TypeId) (size:Nat) (hb:base<=w.heap.size):(w.alloc (.cells #[] e)).ownsRow base e size (.slice (some ⟨w.heap.size,0,none⟩) 0 0) 0 []:=
 ⟨U0,.inr ⟨w.heap.size,0,#[],rfl,hb,heap_alloc_new w _,Nat.le_refl _,J3,U0,U0⟩⟩
theorem mq (fs:List F2) (k:Nat) (h:k<fs.length):(Xd fs)[k*2]?=some (.string (fs.getD k L6).nm):=by
 induction fs generalizing k with
 | nil=>cases h
 | cons x r ih=>
  cases k with
  | zero=>simp [Xd]
  | succ k=>
   have:=ih k (by simpa using h);rw [Nat.succ_mul];simpa [Xd] using this
theorem yw (a b:List F2):Xd (a++b)=Xd a++Xd b:=List.flatMap_append
theorem qB (l:List F2) (k:Nat):Xd (l.take k)=(Xd l).take (k*2):=by
 induction l generalizing k with
 | nil=>simp [Xd]
 | cons x r ih=>
  cases k with
  | zero=>simp [Xd]
  | succ k=>rw [Nat.succ_mul];have:=ih k;simp [Xd] at this ⊢;exact this
theorem cB (l:List F2) (k:Nat):Xd (l.drop k)=(Xd l).drop (k*2):=by
 induction l generalizing k with
 | nil=>simp [Xd]
 | cons x r ih=>
  cases k with
  | zero=>simp [Xd]
  | succ k=>rw [Nat.succ_mul];have:=ih k;simp [Xd] at this ⊢;exact this
theorem Uv (h:w.ownsRow base e size v n xs) (i m:Nat) (hk:i+m<=n) (c cap:Nat) (a:Option Addr) (hv:v=.slice a n cap) (hc:m=0\/cap≠i) (hu:∀ g,v.ownBlock=some g->u.heap[g]?=w.heap[g]?):Src u (.slice (if cap=i then a else a.map (·.add (i*size))) m c) size m ((xs.drop (i*size)).take (m*size)):=by
 rcases h.2 with ⟨h1,h2⟩ | ⟨g,cp,cur,h1,hb,hg,hnc,hcm,hcs,htk⟩
 · subst h2
   obtain rfl:=Nat.le_zero.1 (Nat.le_trans (Nat.le_add_left m i) hk);have:a=none:=by rw [h1] at hv;injection hv with h;exact h.symm
   subst this;exact .inl ⟨⟨c,U0⟩,rfl,U0⟩
 have:a=some ⟨g,0,none⟩/\cap=cp:=by rw [h1] at hv;injection hv with h h2 h3;exact ⟨h.symm,h3.symm⟩
 obtain ⟨rfl,rfl⟩:=this;by_cases h0:m=0
 · subst h0
   refine .inr ⟨if cap=i then ⟨g,0,none⟩ else (⟨g,0,none⟩:Addr).add (i*size),c,by split <;> rfl,U0,fun j x e=>by simp at e⟩
 rw [if_neg (hc.resolve_left h0)];have hm:(i+m)*size<=n*size:=Nat.mul_le_mul_right _ hk;rw [Nat.add_mul] at hm;refine .inr ⟨(⟨g,0,none⟩:Addr).add (i*size),c,rfl,by simp;have:=h.1;omega,fun j x e=>?_⟩;rw [List.getElem?_take] at e;split at e;rotate_left
 · cases e
 rw [List.getElem?_drop,<- htk,List.getElem?_take] at e;split at e;rotate_left
 · cases e
 rw [Addr.add_lit,Addr.add_lit,Lib.cell_of_heap ((hu g (by rw [h1];rfl)).trans hg)];simpa using e
theorem RF {va:Option Addr} {vc:Nat} {gs:List F2} (h:w.ownsRow base 75 2 (.slice va gs.length vc) gs.length (Xd gs)) {k:Nat} (hk:k<gs.length):∃ g,va=some ⟨g,0,none⟩/\w.cell? ⟨g,k*2,none⟩=some (.string (gs.getD k L6).nm):=by
 rcases h.2 with ⟨h1,h2⟩ | ⟨g,cp,cur,h1,hb,hg,hnc,hcm,hcs,htk⟩
 · omega
 injection h1 with h1 _ _;refine ⟨g,h1,?_⟩;have e:=mq gs k hk;rw [<- htk,List.getElem?_take,if_pos O0] at e;rw [Lib.cell_of_heap hg,<- e];simp
theorem WH (ht:prog.underlying t=some (.slice e)) (he:prog.elem t=e) (hz:∀ u,(sizeOf e).run prog u=.ok size u) (h:w.ownsRow base e size v n xs) {k:Nat} (hk:k<=n):∃ v',(∀ u,(Instr.slice t v none (some (.int .i64 (k:Int))) none).run prog u=.ok v' u)/\∀ u,(∀ g,v.ownBlock=some g->u.heap[g]?=w.heap[g]?)->Src u v' size k (xs.take (k*size)):=by
 obtain ⟨a,cap,hv⟩:=Lb h;have hc:n<=cap:=by
  rcases h.2 with ⟨h1,h2⟩ | ⟨g,cp,cur,h1,hb,hg,hnc,_⟩
  · omega
  rw [h1] at hv;injection hv with _ _ h3;omega
 subst hv;refine ⟨.slice (if cap=0 then a else a.map (·.add (0*size))) k cap,fun u=>?_,fun u hu=>?_⟩
 · rw [run_slice_h u t a n cap (by rw [he];exact ht) .i64 k O0 O0,he,hz]
   simp [sliced,Result.andThen]
 have:=Uv h 0 k O0 cap cap a rfl O0 hu;simpa using this
theorem gH (ht:prog.underlying t=some (.slice e)) (he:prog.elem t=e) (hz:∀ u,(sizeOf e).run prog u=.ok size u) (h:w.ownsRow base e size v n xs) {k:Nat} (hk:k<=n):∃ v',(∀ u,(Instr.slice t v (some (.int .i64 (k:Int))) none none).run prog u=.ok v' u)/\∀ u,(∀ g,v.ownBlock=some g->u.heap[g]?=w.heap[g]?)->Src u v' size (n - k) (xs.drop (k*size)):=by
 obtain ⟨a,cap,hv⟩:=Lb h;have hc:n<=cap:=by
  rcases h.2 with ⟨h1,h2⟩ | ⟨g,cp,cur,h1,hb,hg,hnc,_⟩
  · omega
  rw [h1] at hv;injection hv with _ _ h3;omega
 subst hv;refine ⟨.slice (if cap=k then a else a.map (·.add (k*size))) (n - k) (cap - k),fun u=>?_,fun u hu=>?_⟩
 · rw [run_slice_l u t a n cap (by rw [he];exact ht) .i64 k O0 O0,he,hz]
   simp [sliced,Result.andThen]
 have:=Uv h k (n - k) O0 (cap - k) cap a rfl O0 hu;rw [List.take_of_length_le (by simp [h.1,Nat.sub_mul])] at this;exact this
structure W9 (w:World) (A:Value) (x:F2) (u:World):Prop where
 b:Below w.heap.size w u
 h0:Cl u w.heap.size 25 [A]
 h1:Cl u (w.heap.size+1) 75 [.string x.nm,.string x.tx]
 h2:Cl u (w.heap.size+1+1) 25 [.slice none 0 0]
theorem W9.below {w:World} {A:Value} {x:F2} {u u':World} (h:W9 w A x u) (hb:Below u.heap.size u u'):W9 w A x u':=
 ⟨h.b.trans (hb.mono h.b.size),h.h0.below hb h.h0.lt,h.h1.below hb h.h1.lt,h.h2.below hb h.h2.lt⟩
def lH (w:World) (fs:List F2) (x:F2) (e:Ending) (w':World):Prop:=∃ v c gs,e=.returned (.tuple #[.agg #[v],.int .i64 c])/\w'.ownsRow w.heap.size 75 2 v gs.length (Xd gs)/\gs.length<=40/\∀ y∈gs,y∈fs\/y=x
theorem Rm (gs:List F2):∀ v∈Xd gs,v.oneCell'=true:=fun v hv=>by
 obtain ⟨x,_,h⟩:=List.mem_flatMap.1 hv;simp at h;rcases h with rfl | rfl <;> rfl
theorem yE {w w':World} {b:Nat} {t:TypeId} {xs:List Value} {g:Nat} {n c:Nat} (h:Cl w b t xs) (hg:w.grownBy w' (Value.slice (some ⟨g,0,none⟩) n c).ownBlock) (hne:b≠g):Cl w' b t xs:=(hg.block b h.lt (fun e=>hne (Option.some.inj e))).trans h
theorem BG {w u:World} {x:F2} {fs:List F2} (er:u.cell? ⟨w.heap.size+1+1,0,none⟩=some (.slice none 0 0)) (hb:Below w.heap.size w u) (c:Int) (tm:Array Value) (h4:tm[4]?=some (.pointer (some ⟨w.heap.size+1+1,0,none⟩))) (h5:tm[5]?=some (.int .i64 c)):bodyPost prog f94 (fun e w'=>lH w fs x e w'/\Below w.heap.size w w') .ret ⟨tm,[]⟩ u:=
 bodyPost_ret (v:=.tuple #[.agg #[.slice none 0 0],.int .i64 c]) (by simp [results,Tryz.results94,go_sem,er,h4,h5]) rfl ⟨⟨_,_,[],rfl,World.ownsRow_nil _ _ _ _,U0,fun y h=>nomatch h⟩,hb⟩
theorem uL (a:Option Addr) (cap:Nat) (fs:List F2) (x:F2) (w:World) (hl:fs.length<=1000) (hs:∀ i,(fs.getD i L6).le 4000) (hx:x.le 4000) (hat:U3 w a fs):
 Calls prog 94 #[.agg #[.slice a fs.length cap],.agg #[.string x.nm,.string x.tx]] w fun e w'=>lH w fs x e w'/\Below w.heap.size w w':=by
 have HAT:=J5 hat;clear hat;go_enter func94,ntmps94
 go_wp2_with fail
 obtain ⟨W,hW⟩:∃ W:World,W=((w.alloc (.cells #[.slice a fs.length cap] 25)).alloc (.cells #[.string x.nm,.string x.tx] 75)).alloc (.cells #[.slice none 0 0] 25):=⟨_,rfl⟩;rw [<- hW];have H:Hid (W9 w (.slice a fs.length cap) x W):=by
  rw [hW];exact ⟨(bA.alloc U0 _).alloc X3 _,B_ (B_ (F3 w [_] 25) _) _,B_ (qg (xs:=[_,_]) U0) _,qg (xs:=[_]) U0⟩
 clear hW;refine (G.T.c21 a cap fs W O0 (fun i=>⟨Nat.le_trans (hs i).1 O0,Nat.le_trans (hs i).2 O0⟩) (G.T.X0 HAT.out H.out.b)).mono ?_;rintro e w1 ⟨⟨b,rfl,hbt⟩,hb1⟩;have H1:=J5 (H.out.below hb1);clear H hbt hb1;have d0:=H1.out.h0.cell 0;have d1:=H1.out.h1.cell 0;have JS:=H1.out.h1.cell 1;have d2:=H1.out.h2.cell 0;have f2:=H1.out.h2.opn 0;dsimp only [List.getElem?_cons_zero,List.getElem?_cons_succ] at d0 d1 JS d2;cases b
 · go_wp2
   exact BG (World.cell?_setCell_same _ _ _ d2) (H1.out.b.setCell (by show _<=w.heap.size+1+1;omega) _) 1 _ rfl rfl
 go_wp2_with fail
 refine (G.T.VJ x w1 ⟨Nat.le_trans hx.1 O0,Nat.le_trans hx.2 O0⟩).mono ?_;rintro e w2 ⟨rfl,hb2⟩;have H2:=J5 (H1.out.below hb2);clear H1 hb2 d0 d1 JS d2 f2;have d0:=H2.out.h0.cell 0;have d1:=H2.out.h1.cell 0;have JS:=H2.out.h1.cell 1;have d2:=H2.out.h2.cell 0;have f2:=H2.out.h2.opn 0;dsimp only [List.getElem?_cons_zero,List.getElem?_cons_succ] at d0 d1 JS d2;cases hf:G.T.a_ x
 · go_wp2
   exact BG (World.cell?_setCell_same _ _ _ d2) (H2.out.b.setCell (by show _<=w.heap.size+1+1;omega) _) 2 _ rfl rfl
 go_wp2_with fail
 refine (gJ a cap fs x.nm w2 hl (G.T.X0 HAT.out H2.out.b)).mono ?_;rintro e w3 ⟨⟨v,gs,rfl,hr,hg,hsub⟩,hb3⟩;have H3:=J5 (H2.out.below hb3);have HR:=J5 hr;have a0q:=J5 hsub;have hz2:=H2.out.b.size;have h2l:=H2.out.h2.lt;clear H2 hb3 hr hsub d0 d1 JS d2 f2 hf;obtain ⟨va,vc,rfl⟩:=Lb HR.out;have d0:=H3.out.h0.cell 0;have d1:=H3.out.h1.cell 0;have JS:=H3.out.h1.cell 1;have d2:=H3.out.h2.cell 0;have f2:=H3.out.h2.opn 0;dsimp only [List.getElem?_cons_zero,List.getElem?_cons_succ] at d0 d1 JS d2;have hz3:=H3.out.h2.lt;have hz1:=H3.out.h1.lt;by_cases hbig:40<=gs.length
 · go_wp2
   exact BG ((World.cell?_alloc_lt _ _ _ X3).trans (World.cell?_setCell_same _ _ _ d2)) ((H3.out.b.setCell (by show _<=w.heap.size+1+1;omega) _).alloc X3 _) 3 _ rfl rfl
 obtain ⟨w4,hw4⟩:∃ u:World,u=w3.alloc (.cells #[.slice va gs.length vc] 25):=⟨_,rfl⟩;have hb4:Below w3.heap.size w3 w4:=by rw [hw4];exact bA
 have HX:Hid (Cl w4 w3.heap.size 25 [.slice va gs.length vc]):=by show Cl _ _ _ _;rw [hw4];exact F3 w3 [_] 25
 have H4:=J5 (H3.out.below hb4);have HR4:=J5 (ownsRow_below HR.out hb4)
 go_wp2_with fail
 rw [<- hw4];clear hw4;have zN:=HX.out.lt;clear d0 d1 JS d2 f2 H3 HR;go_loopw [7] (fun i wr=>Hid (Below w4.heap.size w4 wr)/\∃ k:Nat,i=.int .i64 k/\k<=gs.length) (fun i _=>gs.length - (intOf i).toNat)
 case atStart=>exact ⟨Below.refl _ _,0,rfl,Nat.zero_le _⟩
 obtain ⟨hbr,k,rfl,hk⟩:=hrel;have H:=J5 (H4.out.below hbr.out);have HX:=J5 (HX.out.below hbr.out HX.out.lt);have HR:=J5 (ownsRow_below HR4.out hbr.out);clear H4 HR4;have hz1:=H.out.h2.lt;have zN:=HX.out.lt;have d1:=H.out.h1.cell 0;have JS:=H.out.h1.cell 1;have d2:=H.out.h2.cell 0;have f2:=H.out.h2.opn 0;have d3:=HX.out.cell 0;dsimp only [List.getElem?_cons_zero,List.getElem?_cons_succ] at d1 JS d2 d3;have HST:Hid (∀ kk:Nat,kk<gs.length->∃ g,va=some ⟨g,0,none⟩/\wr.cell? ⟨g,kk*2,none⟩=some (.string (gs.getD kk L6).nm)):=fun kk hkk=>RF HR.out hkk;have HOW:Hid (∀ y,Below wr.heap.size wr y->∀ g,(Value.slice va gs.length vc).ownBlock=some g->y.heap[g]?=wr.heap[g]?):=fun y hy g e=>hy.block g (HR.out.lt g e).2;have sS:Hid (∀ y,Below wr.heap.size wr y->y.cell? ⟨w3.heap.size,0,none⟩=some (.slice va gs.length vc)/\y.cell? ⟨w.heap.size+1,0,none⟩=some (.string x.nm)/\y.cell? ⟨w.heap.size+1,1,none⟩=some (.string x.tx)):=fun y hy=>⟨(hy.cell zN).trans d3,(hy.cell (by show w.heap.size+1<_;omega)).trans d1,(hy.cell (by show w.heap.size+1<_;omega)).trans JS⟩;have hcase:(∃ g,k<gs.length/\va=some ⟨g,0,none⟩/\wr.cell? ⟨g,k*2,none⟩=some (.string (gs.getD k L6).nm))\/k=gs.length:=by
  rcases Nat.lt_or_ge k gs.length with h | h
  · obtain ⟨g,h1,h2⟩:=HST.out k h
    exact .inl ⟨g,h,h1,h2⟩
  exact .inr O0
 clear HST;have mark:=trivial;rcases hcase with ⟨g,hlt,rfl,hgc⟩ | hlt
 case' inl=>
   generalize (gs.getD k L6).nm=nk at*
   go_wp2_with fail
   refine wp_region_held_drew (S:=fun u=>u.cell? ⟨w3.heap.size,0,none⟩=some (.slice (some ⟨g,0,none⟩) gs.length vc)/\u.cell? ⟨w.heap.size+1,0,none⟩=some (.string x.nm)/\u.cell? ⟨g,k*2,none⟩=some (.string nk)) I1 ?_ fun hH=>?_
   · ((try dsimp only);go_keep)
   refine tq 0 hH ?_;refine tq 1 hH ?_;refine tq 2 hH ?_;refine tq 3 hH ?_;refine tq 4 hH ?_;refine tq 5 hH ?_
   try simp only [qq]
   refine tq 6 hH ?_;refine tq 7 hH ?_;refine tq 8 hH ?_
   try simp only [qq]
   refine tq 9 hH ?_;refine tq 10 hH ?_;refine tq 11 hH ?_
   try simp only [qq]
   refine tq 12 hH ?_;refine tq 13 hH ?_;refine tq 14 hH ?_
   try simp only [qq]
   refine tq 15 hH ?_
   try simp only [qq]
   refine wpAnyH_done I1 ?_ _;clear hH hgc;go_simp;generalize (Op.bytesLess nk.toList x.nm.toList)=lb at*;cases lb;rotate_left
   · go_wp2
     go_roundw
     case rel=>exact ⟨hbr.out.trans ((Below.refl _ _).drew.mono hbr.out.size),k+1,by go_num,O0⟩
     case measure=>simp [intOf];omega
   go_wp2_with fail
   clear hlt;generalize (some (⟨g,0,none⟩:Addr))=va at*;revert mark
 case' inr=>
   have hnl:decide (k<gs.length)=false:=decide_eq_false O0;clear hlt
   go_wp2_with fail
   refine wp_region_held_drew (S:=fun u=>u.cell? ⟨w3.heap.size,0,none⟩=some (.slice va gs.length vc)) I1 ?_ fun hH=>?_
   · ((try dsimp only);go_keep)
   refine tq 0 hH ?_;refine tq 1 hH ?_;refine tq 2 hH ?_;refine tq 3 hH ?_;refine tq 4 hH ?_;refine tq 5 hH ?_
   try simp only [qq]
   refine uq 6 hH ?_;refine uq 7 hH ?_
   try simp only [qq]
   refine uq 8 hH ?_;refine uq 9 hH ?_
   try simp only [qq]
   refine uq 10 hH ?_;refine uq 11 hH ?_
   try simp only [qq]
   refine uq 12 hH ?_;refine uq 13 hH ?_
   try simp only [qq]
   refine uq 14 hH ?_
   try simp only [qq]
   refine tq 15 hH ?_
   try simp only [qq]
   refine wpAnyH_done I1 ?_ _
   go_wp2_with fail
   revert mark
 all_goals
  intro _;obtain ⟨v47,hs1,NY⟩:=WH (t:=23) underlying23 I1 (fun u=>Tryz.sizeOf75 u) HR.out hk;obtain ⟨v55,hs2,YU⟩:=gH (t:=23) underlying23 I1 (fun u=>Tryz.sizeOf75 u) HR.out hk;have S1:Hid (∀ y,Below wr.heap.size wr y->Src y v47 2 k ((Xd gs).take (k*2))):=fun y hy=>NY y (HOW.out y hy);have S2:Hid (∀ y,Below wr.heap.size wr y->Src y v55 2 (gs.length - k) ((Xd gs).drop (k*2))):=fun y hy=>YU y (HOW.out y hy);clear NY YU;refine wp_region_held_drew (S:=fun u=>u.cell? ⟨w3.heap.size,0,none⟩=some (.slice va gs.length vc)/\u.cell? ⟨w.heap.size+1,0,none⟩=some (.string x.nm)/\u.cell? ⟨w.heap.size+1,1,none⟩=some (.string x.tx)) I1 ?_ fun hH=>?_
  · exact sS.out _ (Below.refl _ wr).drew.drew
  obtain ⟨u,hu⟩:∃ u:World,u=wr.drew.drew:=⟨_,rfl⟩;rw [<- hu] at hH ⊢;have Lu:Below wr.heap.size wr u:=by rw [hu];exact (Below.refl _ wr).drew.drew
  clear hu;refine tq 1 hH ?_;refine tq 2 hH ?_;refine tq 3 hH ?_
  try simp only [qq]
  refine tq 4 hH ?_;refine tq 6 hH ?_
  try simp only [qq]
  refine tq 9 hH ?_;refine tq 10 hH ?_;refine tq 11 hH ?_
  try simp only [qq]
  refine tq 12 hH ?_
  try simp only [qq]
  have MM:=trivial;have row:Hid (∀ y,Below wr.heap.size wr y->Below wr.heap.size wr (y.alloc (.cells #[] 75))/\(y.alloc (.cells #[] 75)).ownsRow wr.heap.size 75 2 (.slice (some ⟨y.heap.size,0,none⟩) 0 0) 0 []):=fun y hy=>⟨hy.alloc hy.size _,row0 y 75 2 hy.size⟩;refine wpAnyH_ready (rs:=[0,7]) I1 U0 (AllReadyH.cons (o:=⟨some 43,.buildSlice 23 0 #[],23,_,_,none⟩) rfl (fun K hK=>?_) (AllReadyH.cons (o:=⟨some 50,.buildSlice 23 1 #[(0,.tmp 49)],23,_,_,none⟩) rfl (fun K hK=>?_) AllReadyH.nil));rotate_left;go_simp;obtain ⟨y1,hy1⟩:∃ y:World,y=u.alloc (.cells #[.string x.nm,.string x.tx] 75):=⟨_,rfl⟩;rw [<- hy1];have by1:Below u.heap.size u y1:=by rw [hy1];exact bA
  have Cy1:Hid (Cl y1 u.heap.size 75 [.string x.nm,.string x.tx]):=by show Cl _ _ _ _;rw [hy1];exact F3 u _ 75
  have VT:=bT Lu by1;clear hy1 hH;refine hK.out _ _ ?_ fun hH=>?_
  · exact sS.out _ VT
  clear hK K
  try simp only [qq]
  refine rq 0 fun K hK=>?_;go_simp;obtain ⟨y2,hy2⟩:∃ y:World,y=y1.alloc (.cells #[] 75):=⟨_,rfl⟩;rw [<- hy2];have bC:Below y1.heap.size y1 y2:=by rw [hy2];exact bA
  have dZ:=J5 (row.out y1 VT).2;rw [<- hy2] at dZ;have aQ:=bT VT bC;clear hy2 hH;have oV:=J5 (Cy1.out.below bC Cy1.out.lt);refine hK.out _ _ ?_ fun hH=>?_
  · exact sS.out _ aQ
  clear hK K
  try simp only [qq]
  refine rq 5 fun K hK=>?_;refine V9 rfl _ _ 23 rfl wr.heap.size 75 2 underlying23 Jh J3 _ 0 [] rfl dZ.out _ k _ rfl (S1.out y2 aQ) (fun v hv=>Rm gs v (List.mem_of_mem_take hv)) O0 aQ.size ?_;intro v48 y3 pV MX _;have qV:=Vf aQ MX aQ.size (fun j e=>(dZ.out.lt j e).1);have pV:=J5 pV;have oV:=J5 (yE oV.out MX (by have:=Cy1.out.lt;omega));clear MX hH;refine hK.out _ _ ?_ fun hH=>?_
  · exact sS.out _ qV
  clear hK K
  try simp only [qq]
  generalize u.heap.size=B5 at oV ⊢;revert MM;rotate_left;go_simp;obtain ⟨y1,hy1⟩:∃ y:World,y=u.alloc (.cells #[] 75):=⟨_,rfl⟩;rw [<- hy1];have by1:Below u.heap.size u y1:=by rw [hy1];exact bA
  have Ey1:=J5 (row.out u Lu).2;rw [<- hy1] at Ey1;have VT:=bT Lu by1;clear hy1 hH;refine hK.out _ _ ?_ fun hH=>?_
  · exact sS.out _ VT
  clear hK K
  try simp only [qq]
  refine wpAnyH_ready (rs:=[5,7]) I1 U0 (AllReadyH.cons (o:=⟨some 48,.call ⟨.builtin .append,#[.tmp 43,.tmp 47],#[23,23]⟩,23,_,_,none⟩) rfl (fun K hK=>?_) (AllReadyH.cons (o:=⟨some 50,.buildSlice 23 1 #[(0,.tmp 49)],23,_,_,none⟩) rfl (fun K hK=>?_) AllReadyH.nil));refine V9 rfl _ _ 23 rfl wr.heap.size 75 2 underlying23 Jh J3 _ 0 [] rfl Ey1.out _ k _ rfl (S1.out y1 VT) (fun v hv=>Rm gs v (List.mem_of_mem_take hv)) O0 VT.size ?_;intro v48 y2 Ry2 gy2 _;have aQ:=Vf VT gy2 VT.size (fun j e=>(Ey1.out.lt j e).1);have Ry2:=J5 Ry2;clear gy2 hH;refine hK.out _ _ ?_ fun hH=>?_
  · exact sS.out _ aQ
  clear hK K
  try simp only [qq]
  refine rq 7 fun K hK=>?_;go_simp;obtain ⟨y3,hy3⟩:∃ y:World,y=y2.alloc (.cells #[.string x.nm,.string x.tx] 75):=⟨_,rfl⟩;rw [<- hy3];have eZ:Below y2.heap.size y2 y3:=by rw [hy3];exact bA
  have oV:Hid (Cl y3 y2.heap.size 75 [.string x.nm,.string x.tx]):=by show Cl _ _ _ _;rw [hy3];exact F3 y2 _ 75
  have qV:=bT aQ eZ;clear hy3 hH;have pV:=J5 (ownsRow_below Ry2.out eZ);refine hK.out _ _ ?_ fun hH=>?_
  · exact sS.out _ qV
  clear hK K
  try simp only [qq]
  generalize y2.heap.size=B5 at oV ⊢;revert MM;rotate_left;go_simp;obtain ⟨y2,hy2⟩:∃ y:World,y=y1.alloc (.cells #[.string x.nm,.string x.tx] 75):=⟨_,rfl⟩;rw [<- hy2];have bC:Below y1.heap.size y1 y2:=by rw [hy2];exact bA
  have Cy2:Hid (Cl y2 y1.heap.size 75 [.string x.nm,.string x.tx]):=by show Cl _ _ _ _;rw [hy2];exact F3 y1 _ 75
  have aQ:=bT VT bC;clear hy2 hH;have dZ:=J5 (ownsRow_below Ey1.out bC);refine hK.out _ _ ?_ fun hH=>?_
  · exact sS.out _ aQ
  clear hK K
  try simp only [qq]
  refine rq 5 fun K hK=>?_;refine V9 rfl _ _ 23 rfl wr.heap.size 75 2 underlying23 Jh J3 _ 0 [] rfl dZ.out _ k _ rfl (S1.out y2 aQ) (fun v hv=>Rm gs v (List.mem_of_mem_take hv)) O0 aQ.size ?_;intro v48 y3 pV MX _;have qV:=Vf aQ MX aQ.size (fun j e=>(dZ.out.lt j e).1);have pV:=J5 pV;have oV:=J5 (yE Cy2.out MX (by have:u.heap.size<y1.heap.size:=(Ey1.out.lt _ rfl).2;omega));clear MX hH;refine hK.out _ _ ?_ fun hH=>?_
  · exact sS.out _ qV
  clear hK K
  try simp only [qq]
  generalize y1.heap.size=B5 at oV ⊢;revert MM
  all_goals
   intro _;refine rq 8 fun K hK=>?_;refine V9 rfl _ _ 23 rfl wr.heap.size 75 2 underlying23 Jh J3 _ (0+k) _ rfl pV.out _ 1 [.string x.nm,.string x.tx] rfl (.inr ⟨⟨B5,0,none⟩,1,rfl,rfl,r_ oV.out⟩) (by simp [Value.oneCell']) O0 qV.size ?_;intro v51 y4 Ry4 gy4 _;have Ly4:=Vf qV gy4 qV.size (fun j e=>(pV.out.lt j e).1);have Ry4:=J5 Ry4;clear gy4 hH;refine hK.out _ _ ?_ fun hH=>?_
   · exact sS.out _ Ly4
   clear hK K
   try simp only [qq]
   refine rq 13 fun K hK=>?_;refine V9 rfl _ _ 23 rfl wr.heap.size 75 2 underlying23 Jh J3 _ (0+k+1) _ rfl Ry4.out _ (gs.length - k) _ rfl (S2.out y4 Ly4) (fun v hv=>Rm gs v (List.mem_of_mem_drop hv)) O0 Ly4.size ?_;intro v56 y5 Ry5 gy5 _;rw [show 0+k+1+(gs.length - k)=gs.length+1 from by omega,List.nil_append] at Ry5;have Ly5:=Vf Ly4 gy5 Ly4.size (fun j e=>(Ry4.out.lt j e).1);obtain ⟨va5,vc5,rfl⟩:=Lb Ry5;have Ry5:=J5 Ry5;clear gy5 hH;refine hK.out _ _ ?_ fun hH=>?_
   · exact sS.out _ Ly5
   clear hK K
   try simp only [qq]
   refine tq 14 hH ?_
   try simp only [qq]
   refine rq 15 fun K hK=>?_;have C5:=H.out.h2.below Ly5 hz1;have e2:=C5.cell 0;have e3:=C5.opn 0;dsimp only [List.getElem?_cons_zero] at e2;obtain ⟨s1,s2,s3⟩:=sS.out y5 Ly5;go_simp;clear hH;refine hK.out _ _ ?_ fun hH=>?_
   · exact ⟨(World.cell?_setCell_other _ _ _ _ (by simp <;> omega)).trans s1,(World.cell?_setCell_other _ _ _ _ U0).trans s2,(World.cell?_setCell_other _ _ _ _ U0).trans s3⟩
   clear hK K
   try simp only [qq]
   refine tq 16 hH ?_
   try simp only [qq]
   refine wpAnyH_done I1 ?_ _;clear hH;go_wp2;have er:=World.cell?_setCell_same y5 ⟨w.heap.size+1+1,0,none⟩ (.slice va5 (gs.length+1) vc5) e2;refine bodyPost_ret (v:=.tuple #[.agg #[.slice va5 (gs.length+1) vc5],.int .i64 0]) (by simp [results,Tryz.results94,go_sem,er]) rfl ⟨⟨_,0,gs.take k++[x]++gs.drop k,rfl,?_,X3,fun y hy=>?_⟩,?_⟩
   · have h:=V4 (qi (b:=w.heap.size+1+1) (j:=0) (x:=.slice va5 (gs.length+1) vc5) Ry5.out O0) (B':=w.heap.size) O0
     have e1:(gs.take k++[x]++gs.drop k).length=gs.length+1:=X3;rw [e1,yw,yw,qB,cB];exact h
   · simp only [List.mem_append,List.mem_singleton] at hy
     rcases hy with (h | h) | h
     · exact .inl (a0q.out y (List.mem_of_mem_take h))
     · exact .inr h
     exact .inl (a0q.out y (List.mem_of_mem_drop h))
   exact (H.out.b.trans (Ly5.mono H.out.b.size)).setCell (by show w.heap.size<=w.heap.size+1+1;omega) _
end Go.Proofs.YtdpoaadafcaffaaGreatDoor
