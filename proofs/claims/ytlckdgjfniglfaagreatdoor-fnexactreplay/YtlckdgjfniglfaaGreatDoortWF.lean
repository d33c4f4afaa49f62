import Derived.Test.YtlckdgjfniglfaaGreatDoortX5
set_option maxHeartbeats 8000000
set_option maxRecDepth 100000
set_option linter.unusedVariables false
namespace Go.Proofs.YtlckdgjfniglfaaGreatDoor.T
open Proofs.Tryz
open Go.RowKit
variable {w u:World} {base size n:Nat} {e t:TypeId} {v:Value} {xs:List Value}
theorem row0 (w:World) (e:TypeId) (size:Nat) (hb:base<=w.heap.size):(w.alloc (.cells #[] e)).ownsRow base e size (.slice (some ⟨w.heap.size,0,none⟩) 0 0) 0 []:=
 ⟨sm_,.inr ⟨w.heap.size,0,#[],rfl,hb,heap_alloc_new w _,Nat.le_refl _,dc_,sm_,sm_⟩⟩
theorem fiC_get (fs:List F2) (k:Nat) (h:k<fs.length):(fiC fs)[k*2]?=some (.string (fs.getD k f2z).nm):=by
 induction fs generalizing k with
 | nil=>cases h
 | cons x r ih=>
  cases k with
  | zero=>simp [fiC]
  | succ k=>
   have:=ih k (by simpa using h);rw [Nat.succ_mul];simpa [fiC] using this
theorem fiC_app (a b:List F2):fiC (a++b)=fiC a++fiC b:=List.flatMap_append
theorem fiC_take (l:List F2) (k:Nat):fiC (l.take k)=(fiC l).take (k*2):=by
 induction l generalizing k with
 | nil=>simp [fiC]
 | cons x r ih=>
  cases k with
  | zero=>simp [fiC]
  | succ k=>rw [Nat.succ_mul];have:=ih k;simp [fiC] at this ⊢;exact this
theorem fiC_drop (l:List F2) (k:Nat):fiC (l.drop k)=(fiC l).drop (k*2):=by
 induction l generalizing k with
 | nil=>simp [fiC]
 | cons x r ih=>
  cases k with
  | zero=>simp [fiC]
  | succ k=>rw [Nat.succ_mul];have:=ih k;simp [fiC] at this ⊢;exact this
theorem row_srW (h:w.ownsRow base e size v n xs) (i m:Nat) (hk:i+m<=n) (c cap:Nat) (a:Option Addr) (hv:v=.slice a n cap) (hc:m=0\/cap≠i) (hu:∀ g,v.ownBlock=some g->u.heap[g]?=w.heap[g]?):Src u (.slice (if cap=i then a else a.map (·.add (i*size))) m c) size m ((xs.drop (i*size)).take (m*size)):=by
 rcases h.2 with ⟨h1,h2⟩ | ⟨g,cp,cur,h1,hb,hg,hnc,hcm,hcs,htk⟩
 · subst h2
   obtain rfl:=Nat.le_zero.1 (Nat.le_trans (Nat.le_add_left m i) hk);have:a=none:=by rw [h1] at hv;injection hv with h;exact h.symm
   subst this;exact .inl ⟨⟨c,sm_⟩,rfl,sm_⟩
 have:a=some ⟨g,0,none⟩/\cap=cp:=by rw [h1] at hv;injection hv with h h2 h3;exact ⟨h.symm,h3.symm⟩
 obtain ⟨rfl,rfl⟩:=this;by_cases h0:m=0
 · subst h0
   refine .inr ⟨if cap=i then ⟨g,0,none⟩ else (⟨g,0,none⟩:Addr).add (i*size),c,by split <;> rfl,sm_,fun j x e=>by simp at e⟩
 rw [if_neg (hc.resolve_left h0)];have hm:(i+m)*size<=n*size:=Nat.mul_le_mul_right _ hk;rw [Nat.add_mul] at hm;refine .inr ⟨(⟨g,0,none⟩:Addr).add (i*size),c,rfl,by simp;have:=h.1;omega,fun j x e=>?_⟩;rw [List.getElem?_take] at e;split at e;rotate_left
 · cases e
 rw [List.getElem?_drop,<- htk,List.getElem?_take] at e;split at e;rotate_left
 · cases e
 rw [Addr.add_lit,Addr.add_lit,Lib.cell_of_heap ((hu g (by rw [h1];rfl)).trans hg)];simpa using e
theorem row_nm {va:Option Addr} {vc:Nat} {gs:List F2} (h:w.ownsRow base 40 2 (.slice va gs.length vc) gs.length (fiC gs)) {k:Nat} (hk:k<gs.length):∃ g,va=some ⟨g,0,none⟩/\w.cell? ⟨g,k*2,none⟩=some (.string (gs.getD k f2z).nm):=by
 rcases h.2 with ⟨h1,h2⟩ | ⟨g,cp,cur,h1,hb,hg,hnc,hcm,hcs,htk⟩
 · omega
 injection h1 with h1 _ _;refine ⟨g,h1,?_⟩;have e:=fiC_get gs k hk;rw [<- htk,List.getElem?_take,if_pos om_] at e;rw [Lib.cell_of_heap hg,<- e];simp
theorem sl_lo (ht:prog.underlying t=some (.slice e)) (he:prog.elem t=e) (hz:∀ u,(sizeOf e).run prog u=.ok size u) (h:w.ownsRow base e size v n xs) {k:Nat} (hk:k<=n):∃ v',(∀ u,(Instr.slice t v none (some (.int .i64 (k:Int))) none).run prog u=.ok v' u)/\∀ u,(∀ g,v.ownBlock=some g->u.heap[g]?=w.heap[g]?)->Src u v' size k (xs.take (k*size)):=by
 obtain ⟨a,cap,hv⟩:=row_sl h;have hc:n<=cap:=by
  rcases h.2 with ⟨h1,h2⟩ | ⟨g,cp,cur,h1,hb,hg,hnc,_⟩
  · omega
  rw [h1] at hv;injection hv with _ _ h3;omega
 subst hv;refine ⟨.slice (if cap=0 then a else a.map (·.add (0*size))) k cap,fun u=>?_,fun u hu=>?_⟩
 · rw [run_slice_h u t a n cap (by rw [he];exact ht) .i64 k om_ om_,he,hz]
   simp [sliced,Result.andThen]
 have:=row_srW h 0 k om_ cap cap a rfl om_ hu;simpa using this
theorem sl_hi (ht:prog.underlying t=some (.slice e)) (he:prog.elem t=e) (hz:∀ u,(sizeOf e).run prog u=.ok size u) (h:w.ownsRow base e size v n xs) {k:Nat} (hk:k<=n):∃ v',(∀ u,(Instr.slice t v (some (.int .i64 (k:Int))) none none).run prog u=.ok v' u)/\∀ u,(∀ g,v.ownBlock=some g->u.heap[g]?=w.heap[g]?)->Src u v' size (n - k) (xs.drop (k*size)):=by
 obtain ⟨a,cap,hv⟩:=row_sl h;have hc:n<=cap:=by
  rcases h.2 with ⟨h1,h2⟩ | ⟨g,cp,cur,h1,hb,hg,hnc,_⟩
  · omega
  rw [h1] at hv;injection hv with _ _ h3;omega
 subst hv;refine ⟨.slice (if cap=k then a else a.map (·.add (k*size))) (n - k) (cap - k),fun u=>?_,fun u hu=>?_⟩
 · rw [run_slice_l u t a n cap (by rw [he];exact ht) .i64 k om_ om_,he,hz]
   simp [sliced,Result.andThen]
 have:=row_srW h k (n - k) om_ (cap - k) cap a rfl om_ hu;rw [List.take_of_length_le (by simp [h.1,Nat.sub_mul])] at this;exact this
structure W9 (w:World) (A:Value) (x:F2) (u:World):Prop where
 b:Below w.heap.size w u
 h0:Cl u w.heap.size 26 [A]
 h1:Cl u (w.heap.size+1) 40 [.string x.nm,.string x.tx]
 h2:Cl u (w.heap.size+1+1) 26 [.slice none 0 0]
theorem W9.below {w:World} {A:Value} {x:F2} {u u':World} (h:W9 w A x u) (hb:Below u.heap.size u u'):W9 w A x u':=
 ⟨h.b.trans (hb.mono h.b.size),h.h0.below hb h.h0.lt,h.h1.below hb h.h1.lt,h.h2.below hb h.h2.lt⟩
def Upto (gs:List F2) (x:F2) (k:Nat):Prop:=∀ j,j<k->lt (gs.getD j f2z).nm x.nm=true
def Stop (gs:List F2) (x:F2) (k:Nat):Prop:=k<gs.length->lt (gs.getD k f2z).nm x.nm=false
theorem setR_ok {fs gs:List F2} {x:F2} {k:Nat} (ht:treeOk fs) (hf:fileOk x=true) (hg:gs=fs.filter (nq x.nm)) (hl:gs.length<40) (hk:k<=gs.length) (hu:Upto gs x k) (hs:Stop gs x k):SetR fs x 0 (gs.take k++[x]++gs.drop k):=by
 have e:without fs x.nm=gs:=hg.symm;refine .inr (.inr (.inr ⟨ht,hf,by rw [e];exact hl,rfl,k,?_,?_⟩))
 · rw [e]
   refine ⟨hk,hu,?_⟩;rcases Nat.lt_or_ge k gs.length with h | h
   · exact .inr (hs h)
   exact .inl om_
 rw [e];unfold ins;simp
def Is94 (w:World) (fs:List F2) (x:F2) (e:Ending) (w':World):Prop:=∃ v c gs,e=.returned (.tuple #[.agg #[v],.int .i64 c])/\w'.ownsRow w.heap.size 40 2 v gs.length (fiC gs)/\gs.length<=40/\(∀ y∈gs,y∈fs\/y=x)/\SetR fs x c gs
theorem fi_one (gs:List F2):∀ v∈fiC gs,v.oneCell'=true:=fun v hv=>by
 obtain ⟨x,_,h⟩:=List.mem_flatMap.1 hv;simp at h;rcases h with rfl | rfl <;> rfl
theorem cl_gb {w w':World} {b:Nat} {t:TypeId} {xs:List Value} {g:Nat} {n c:Nat} (h:Cl w b t xs) (hg:w.grownBy w' (Value.slice (some ⟨g,0,none⟩) n c).ownBlock) (hne:b≠g):Cl w' b t xs:=(hg.block b h.lt (fun e=>hne (Option.some.inj e))).trans h
theorem no94 {w u:World} {x:F2} {fs:List F2} (er:u.cell? ⟨w.heap.size+1+1,0,none⟩=some (.slice none 0 0)) (hb:Below w.heap.size w u) (c:Int) (hc:SetR fs x c []) (tm:Array Value) (h4:tm[4]?=some (.pointer (some ⟨w.heap.size+1+1,0,none⟩))) (h5:tm[5]?=some (.int .i64 c)):bodyPost prog f36 (fun e w'=>Is94 w fs x e w'/\Below w.heap.size w w') .ret ⟨tm,[]⟩ u:=
 bodyPost_ret (v:=.tuple #[.agg #[.slice none 0 0],.int .i64 c]) (by simp [results,Tryz.results36,go_sem,er,h4,h5]) rfl ⟨⟨_,_,[],rfl,World.ownsRow_nil _ _ _ _,sm_,(fun y h=>nomatch h),hc⟩,hb⟩
theorem c36 (a:Option Addr) (cap:Nat) (fs:List F2) (x:F2) (w:World) (hl:fs.length<=1000) (hs:∀ i,(fs.getD i f2z).le 4000) (hx:x.le 4000) (hat:FilesAt w a fs):
 Calls prog 36 #[.agg #[.slice a fs.length cap],.agg #[.string x.nm,.string x.tx]] w fun e w'=>Is94 w fs x e w'/\Below w.heap.size w w':=by
 have HAT:=hdI hat;clear hat;go_enter func36,ntmps36
 go_wp2_with fail
 obtain ⟨W,hW⟩:∃ W:World,W=((w.alloc (.cells #[.slice a fs.length cap] 26)).alloc (.cells #[.string x.nm,.string x.tx] 40)).alloc (.cells #[.slice none 0 0] 26):=⟨_,rfl⟩;rw [<- hW];have H:Hid (W9 w (.slice a fs.length cap) x W):=by
  rw [hW];exact ⟨(bA_.alloc sm_ _).alloc so_ _,cl_old (cl_old (cl_new w [_] 26) _) _,cl_old (cl_at (xs:=[_,_]) sm_) _,cl_at (xs:=[_]) sm_⟩
 clear hW;refine (c66 a cap fs W om_ (fun i=>⟨Nat.le_trans (hs i).1 om_,Nat.le_trans (hs i).2 om_⟩) (files_below HAT.out H.out.b)).mono ?_;rintro e w1 ⟨⟨b,rfl,hbt⟩,hb1⟩;have H1:=hdI (H.out.below hb1);have HTT:=hdI hbt.1;have HTN:=hdI hbt.2;clear H hbt hb1;have d0:=H1.out.h0.cell 0;have d1:=H1.out.h1.cell 0;have d1b:=H1.out.h1.cell 1;have d2:=H1.out.h2.cell 0;have f2:=H1.out.h2.opn 0;dsimp only [List.getElem?_cons_zero,List.getElem?_cons_succ] at d0 d1 d1b d2;cases b
 · go_wp2
   exact no94 (World.cell?_setCell_same _ _ _ d2) (H1.out.b.setCell (by show _<=w.heap.size+1+1;omega) _) 1 (.inl ⟨fun h=>absurd (HTN.out h) dc_,rfl,rfl⟩) _ rfl rfl
 have HTR:=hdI (HTT.out rfl);clear HTT
 go_wp2_with fail
 refine (c60 x w1 ⟨Nat.le_trans hx.1 om_,Nat.le_trans hx.2 om_⟩).mono ?_;rintro e w2 ⟨rfl,hb2⟩;have H2:=hdI (H1.out.below hb2);clear H1 hb2 d0 d1 d1b d2 f2;have d0:=H2.out.h0.cell 0;have d1:=H2.out.h1.cell 0;have d1b:=H2.out.h1.cell 1;have d2:=H2.out.h2.cell 0;have f2:=H2.out.h2.opn 0;dsimp only [List.getElem?_cons_zero,List.getElem?_cons_succ] at d0 d1 d1b d2;cases hf:fileOk x
 · go_wp2
   exact no94 (World.cell?_setCell_same _ _ _ d2) (H2.out.b.setCell (by show _<=w.heap.size+1+1;omega) _) 2 (.inr (.inl ⟨HTR.out,hf,rfl,rfl⟩)) _ rfl rfl
 go_wp2_with fail
 refine (c67n a cap fs x.nm w2 hl (files_below HAT.out H2.out.b)).mono ?_;rintro e w3 ⟨⟨v,gs,rfl,hr,hg,hsub,hfi⟩,hb3⟩;have HFI:=hdI hfi;have HFO:=hdI hf;have H3:=hdI (H2.out.below hb3);have HR:=hdI hr;have HSUB:=hdI hsub;have hz2:=H2.out.b.size;have h2l:=H2.out.h2.lt;clear H2 hb3 hr hsub hfi d0 d1 d1b d2 f2 hf;obtain ⟨va,vc,rfl⟩:=row_sl HR.out;have d0:=H3.out.h0.cell 0;have d1:=H3.out.h1.cell 0;have d1b:=H3.out.h1.cell 1;have d2:=H3.out.h2.cell 0;have f2:=H3.out.h2.opn 0;dsimp only [List.getElem?_cons_zero,List.getElem?_cons_succ] at d0 d1 d1b d2;have hz3:=H3.out.h2.lt;have hz1:=H3.out.h1.lt;by_cases hbig:40<=gs.length
 · go_wp2
   exact no94 ((World.cell?_alloc_lt _ _ _ so_).trans (World.cell?_setCell_same _ _ _ d2)) ((H3.out.b.setCell (by show _<=w.heap.size+1+1;omega) _).alloc so_ _) 3 (.inr (.inr (.inl ⟨HTR.out,HFO.out,(by show 40<=(fs.filter (nq x.nm)).length;rw [<- HFI.out];exact hbig),rfl,rfl⟩))) _ rfl rfl
 obtain ⟨w4,hw4⟩:∃ u:World,u=w3.alloc (.cells #[.slice va gs.length vc] 26):=⟨_,rfl⟩;have hb4:Below w3.heap.size w3 w4:=by rw [hw4];exact bA_
 have HX:Hid (Cl w4 w3.heap.size 26 [.slice va gs.length vc]):=by show Cl _ _ _ _;rw [hw4];exact cl_new w3 [_] 26
 have H4:=hdI (H3.out.below hb4);have HR4:=hdI (ownsRow_below HR.out hb4)
 go_wp2_with fail
 rw [<- hw4];clear hw4;have hz4:=HX.out.lt;clear d0 d1 d1b d2 f2 H3 HR;go_loopw [7] (fun i wr=>Hid (Below w4.heap.size w4 wr)/\∃ k:Nat,i=.int .i64 k/\k<=gs.length/\Hid (Upto gs x k)) (fun i _=>gs.length - (intOf i).toNat)
 case atStart=>exact ⟨Below.refl _ _,0,rfl,Nat.zero_le _,fun j h=>absurd h (Nat.not_lt_zero _)⟩
 obtain ⟨hbr,k,rfl,hk,HU⟩:=hrel;have H:=hdI (H4.out.below hbr.out);have HX:=hdI (HX.out.below hbr.out HX.out.lt);have HR:=hdI (ownsRow_below HR4.out hbr.out);clear H4 HR4;have hz1:=H.out.h2.lt;have hz4:w3.heap.size<wr.heap.size:=HX.out.lt;have d1:=H.out.h1.cell 0;have d1b:=H.out.h1.cell 1;have d2:=H.out.h2.cell 0;have f2:=H.out.h2.opn 0;have d3:=HX.out.cell 0;dsimp only [List.getElem?_cons_zero,List.getElem?_cons_succ] at d1 d1b d2 d3;have HST:Hid (∀ kk:Nat,kk<gs.length->∃ g,va=some ⟨g,0,none⟩/\wr.cell? ⟨g,kk*2,none⟩=some (.string (gs.getD kk f2z).nm)):=fun kk hkk=>row_nm HR.out hkk;have HOW:Hid (∀ y,Below wr.heap.size wr y->∀ g,(Value.slice va gs.length vc).ownBlock=some g->y.heap[g]?=wr.heap[g]?):=fun y hy g e=>hy.block g (HR.out.lt g e).2;have sS:Hid (∀ y,Below wr.heap.size wr y->y.cell? ⟨w3.heap.size,0,none⟩=some (.slice va gs.length vc)/\y.cell? ⟨w.heap.size+1,0,none⟩=some (.string x.nm)/\y.cell? ⟨w.heap.size+1,1,none⟩=some (.string x.tx)):=fun y hy=>⟨(hy.cell hz4).trans d3,(hy.cell (by show w.heap.size+1<_;omega)).trans d1,(hy.cell (by show w.heap.size+1<_;omega)).trans d1b⟩;have hcase:(∃ g,k<gs.length/\va=some ⟨g,0,none⟩/\wr.cell? ⟨g,k*2,none⟩=some (.string (gs.getD k f2z).nm))\/k=gs.length:=by
  rcases Nat.lt_or_ge k gs.length with h | h
  · obtain ⟨g,h1,h2⟩:=HST.out k h
    exact .inl ⟨g,h,h1,h2⟩
  exact .inr om_
 clear HST;have mark:True:=trivial;rcases hcase with ⟨g,hlt,rfl,hgc⟩ | hlt
 case' inl=>
  have HL1:Hid (Op.bytesLess (gs.getD k f2z).nm.toList x.nm.toList=true->Upto gs x (k+1)):=fun h j hj=>by
   rcases Nat.lt_or_ge j k with h1 | h1
   · exact HU.out j h1
   obtain rfl:j=k:=om_;exact h
  have HL0:Hid (Op.bytesLess (gs.getD k f2z).nm.toList x.nm.toList=false->Stop gs x k):=fun h _=>h;generalize (gs.getD k f2z).nm=nk at*
  go_wp2_with fail
  refine wp_region_held_drew (S:=fun u=>u.cell? ⟨w3.heap.size,0,none⟩=some (.slice (some ⟨g,0,none⟩) gs.length vc)/\u.cell? ⟨w.heap.size+1,0,none⟩=some (.string x.nm)/\u.cell? ⟨g,k*2,none⟩=some (.string nk)) kr_ ?_ fun hH=>?_
  · ((try dsimp only);go_keep)
  refine tq 0 hH ?_;refine tq 1 hH ?_;refine tq 2 hH ?_;refine tq 3 hH ?_;refine tq 4 hH ?_;refine tq 5 hH ?_
  try simp only [qq]
  refine tq 6 hH ?_;refine tq 7 hH ?_;refine tq 8 hH ?_
  try simp only [qq]
  refine tq 9 hH ?_;refine tq 10 hH ?_;refine tq 11 hH ?_
  try simp only [qq]
  refine tq 12 hH ?_;refine tq 13 hH ?_;refine tq 14 hH ?_
  try simp only [qq]
  refine tq 15 hH ?_
  try simp only [qq]
  refine wpAnyH_done kr_ ?_ _;clear hH hgc;go_simp;generalize (Op.bytesLess nk.toList x.nm.toList)=lb at*;cases lb;rotate_left
  · have HU:=hdI (HL1.out rfl)
    clear HL1 HL0;go_wp2;go_roundw
    case rel=>exact ⟨hbr.out.trans ((Below.refl _ _).drew.mono hbr.out.size),k+1,by go_num,om_,HU⟩
    case measure=>simp [intOf];omega
  have HS:=hdI (HL0.out rfl);clear HL1 HL0
  go_wp2_with fail
  clear hlt;generalize (some (⟨g,0,none⟩:Addr))=va at*;revert mark
 case' inr=>
  have hnl:decide (k<gs.length)=false:=decide_eq_false om_;have HS:Hid (Stop gs x k):=fun h=>absurd h om_;clear hlt
  go_wp2_with fail
  refine wp_region_held_drew (S:=fun u=>u.cell? ⟨w3.heap.size,0,none⟩=some (.slice va gs.length vc)) kr_ ?_ fun hH=>?_
  · ((try dsimp only);go_keep)
  refine tq 0 hH ?_;refine tq 1 hH ?_;refine tq 2 hH ?_;refine tq 3 hH ?_;refine tq 4 hH ?_;refine tq 5 hH ?_
  try simp only [qq]
  refine uq 6 hH ?_;refine uq 7 hH ?_
  try simp only [qq]
  refine uq 8 hH ?_;refine uq 9 hH ?_
  try simp only [qq]
  refine uq 10 hH ?_;refine uq 11 hH ?_
  try simp only [qq]
  refine uq 12 hH ?_;refine uq 13 hH ?_
  try simp only [qq]
  refine uq 14 hH ?_
  try simp only [qq]
  refine tq 15 hH ?_
  try simp only [qq]
  refine wpAnyH_done kr_ ?_ _
  go_wp2_with fail
  revert mark
 all_goals
  intro _;obtain ⟨v47,hs1,SR1⟩:=sl_lo (t:=24) underlying24 kr_ (fun u=>Tryz.sizeOf40 u) HR.out hk;obtain ⟨v55,hs2,SR2⟩:=sl_hi (t:=24) underlying24 kr_ (fun u=>Tryz.sizeOf40 u) HR.out hk;have S1:Hid (∀ y,Below wr.heap.size wr y->Src y v47 2 k ((fiC gs).take (k*2))):=fun y hy=>SR1 y (HOW.out y hy);have S2:Hid (∀ y,Below wr.heap.size wr y->Src y v55 2 (gs.length - k) ((fiC gs).drop (k*2))):=fun y hy=>SR2 y (HOW.out y hy);clear SR1 SR2;refine wp_region_held_drew (S:=fun u=>u.cell? ⟨w3.heap.size,0,none⟩=some (.slice va gs.length vc)/\u.cell? ⟨w.heap.size+1,0,none⟩=some (.string x.nm)/\u.cell? ⟨w.heap.size+1,1,none⟩=some (.string x.tx)) kr_ ?_ fun hH=>?_
  · exact sS.out _ (Below.refl _ wr).drew.drew
  obtain ⟨u,hu⟩:∃ u:World,u=wr.drew.drew:=⟨_,rfl⟩;rw [<- hu] at hH ⊢;have Lu:Below wr.heap.size wr u:=by rw [hu];exact (Below.refl _ wr).drew.drew
  clear hu;refine tq 1 hH ?_;refine tq 2 hH ?_;refine tq 3 hH ?_
  try simp only [qq]
  refine tq 4 hH ?_;refine tq 6 hH ?_
  try simp only [qq]
  refine tq 9 hH ?_;refine tq 10 hH ?_;refine tq 11 hH ?_
  try simp only [qq]
  refine tq 12 hH ?_
  try simp only [qq]
  have mark2:True:=trivial;have row:Hid (∀ y,Below wr.heap.size wr y->Below wr.heap.size wr (y.alloc (.cells #[] 40))/\(y.alloc (.cells #[] 40)).ownsRow wr.heap.size 40 2 (.slice (some ⟨y.heap.size,0,none⟩) 0 0) 0 []):=fun y hy=>⟨hy.alloc hy.size _,row0 y 40 2 hy.size⟩;refine wpAnyH_ready (rs:=[0,7]) kr_ sm_ (AllReadyH.cons (o:=⟨some 43,.buildSlice 24 0 #[],24,_,_,none⟩) rfl (fun K hK=>?_) (AllReadyH.cons (o:=⟨some 50,.buildSlice 24 1 #[(0,.tmp 49)],24,_,_,none⟩) rfl (fun K hK=>?_) AllReadyH.nil));rotate_left;go_simp;obtain ⟨y1,hy1⟩:∃ y:World,y=u.alloc (.cells #[.string x.nm,.string x.tx] 40):=⟨_,rfl⟩;rw [<- hy1];have by1:Below u.heap.size u y1:=by rw [hy1];exact bA_
  have Cy1:Hid (Cl y1 u.heap.size 40 [.string x.nm,.string x.tx]):=by show Cl _ _ _ _;rw [hy1];exact cl_new u _ 40
  have Ly1:Below wr.heap.size wr y1:=bT_ Lu by1;clear hy1 hH;refine hK.out _ _ ?_ fun hH=>?_
  · exact sS.out _ Ly1
  clear hK K
  try simp only [qq]
  refine rq 0 fun K hK=>?_;go_simp;obtain ⟨y2,hy2⟩:∃ y:World,y=y1.alloc (.cells #[] 40):=⟨_,rfl⟩;rw [<- hy2];have by2:Below y1.heap.size y1 y2:=by rw [hy2];exact bA_
  have Ey2:=hdI (row.out y1 Ly1).2;rw [<- hy2] at Ey2;have Ly2:Below wr.heap.size wr y2:=bT_ Ly1 by2;clear hy2 hH;have Cy3:=hdI (Cy1.out.below by2 Cy1.out.lt);refine hK.out _ _ ?_ fun hH=>?_
  · exact sS.out _ Ly2
  clear hK K
  try simp only [qq]
  refine rq 5 fun K hK=>?_;refine st_app rfl _ _ 24 rfl wr.heap.size 40 2 underlying24 inf40 dc_ _ 0 [] rfl Ey2.out _ k _ rfl (S1.out y2 Ly2) (fun v hv=>fi_one gs v (List.mem_of_mem_take hv)) om_ Ly2.size ?_;intro v48 y3 Ry3 gy3 _;have Ly3:=gr_bW Ly2 gy3 Ly2.size (fun j e=>(Ey2.out.lt j e).1);have Ry3:=hdI Ry3;have Cy3:=hdI (cl_gb Cy3.out gy3 (by have:=Cy1.out.lt;omega));clear gy3 hH;refine hK.out _ _ ?_ fun hH=>?_
  · exact sS.out _ Ly3
  clear hK K
  try simp only [qq]
  generalize u.heap.size=B5 at Cy3 ⊢;revert mark2;rotate_left;go_simp;obtain ⟨y1,hy1⟩:∃ y:World,y=u.alloc (.cells #[] 40):=⟨_,rfl⟩;rw [<- hy1];have by1:Below u.heap.size u y1:=by rw [hy1];exact bA_
  have Ey1:=hdI (row.out u Lu).2;rw [<- hy1] at Ey1;have Ly1:Below wr.heap.size wr y1:=bT_ Lu by1;clear hy1 hH;refine hK.out _ _ ?_ fun hH=>?_
  · exact sS.out _ Ly1
  clear hK K
  try simp only [qq]
  refine wpAnyH_ready (rs:=[5,7]) kr_ sm_ (AllReadyH.cons (o:=⟨some 48,.call ⟨.builtin .append,#[.tmp 43,.tmp 47],#[24,24]⟩,24,_,_,none⟩) rfl (fun K hK=>?_) (AllReadyH.cons (o:=⟨some 50,.buildSlice 24 1 #[(0,.tmp 49)],24,_,_,none⟩) rfl (fun K hK=>?_) AllReadyH.nil));refine st_app rfl _ _ 24 rfl wr.heap.size 40 2 underlying24 inf40 dc_ _ 0 [] rfl Ey1.out _ k _ rfl (S1.out y1 Ly1) (fun v hv=>fi_one gs v (List.mem_of_mem_take hv)) om_ Ly1.size ?_;intro v48 y2 Ry2 gy2 _;have Ly2:=gr_bW Ly1 gy2 Ly1.size (fun j e=>(Ey1.out.lt j e).1);have Ry2:=hdI Ry2;clear gy2 hH;refine hK.out _ _ ?_ fun hH=>?_
  · exact sS.out _ Ly2
  clear hK K
  try simp only [qq]
  refine rq 7 fun K hK=>?_;go_simp;obtain ⟨y3,hy3⟩:∃ y:World,y=y2.alloc (.cells #[.string x.nm,.string x.tx] 40):=⟨_,rfl⟩;rw [<- hy3];have by3:Below y2.heap.size y2 y3:=by rw [hy3];exact bA_
  have Cy3:Hid (Cl y3 y2.heap.size 40 [.string x.nm,.string x.tx]):=by show Cl _ _ _ _;rw [hy3];exact cl_new y2 _ 40
  have Ly3:Below wr.heap.size wr y3:=bT_ Ly2 by3;clear hy3 hH;have Ry3:=hdI (ownsRow_below Ry2.out by3);refine hK.out _ _ ?_ fun hH=>?_
  · exact sS.out _ Ly3
  clear hK K
  try simp only [qq]
  generalize y2.heap.size=B5 at Cy3 ⊢;revert mark2;rotate_left;go_simp;obtain ⟨y2,hy2⟩:∃ y:World,y=y1.alloc (.cells #[.string x.nm,.string x.tx] 40):=⟨_,rfl⟩;rw [<- hy2];have by2:Below y1.heap.size y1 y2:=by rw [hy2];exact bA_
  have Cy2:Hid (Cl y2 y1.heap.size 40 [.string x.nm,.string x.tx]):=by show Cl _ _ _ _;rw [hy2];exact cl_new y1 _ 40
  have Ly2:Below wr.heap.size wr y2:=bT_ Ly1 by2;clear hy2 hH;have Ey2:=hdI (ownsRow_below Ey1.out by2);refine hK.out _ _ ?_ fun hH=>?_
  · exact sS.out _ Ly2
  clear hK K
  try simp only [qq]
  refine rq 5 fun K hK=>?_;refine st_app rfl _ _ 24 rfl wr.heap.size 40 2 underlying24 inf40 dc_ _ 0 [] rfl Ey2.out _ k _ rfl (S1.out y2 Ly2) (fun v hv=>fi_one gs v (List.mem_of_mem_take hv)) om_ Ly2.size ?_;intro v48 y3 Ry3 gy3 _;have Ly3:=gr_bW Ly2 gy3 Ly2.size (fun j e=>(Ey2.out.lt j e).1);have Ry3:=hdI Ry3;have Cy3:=hdI (cl_gb Cy2.out gy3 (by have:u.heap.size<y1.heap.size:=(Ey1.out.lt _ rfl).2;omega));clear gy3 hH;refine hK.out _ _ ?_ fun hH=>?_
  · exact sS.out _ Ly3
  clear hK K
  try simp only [qq]
  generalize y1.heap.size=B5 at Cy3 ⊢;revert mark2
  all_goals
   intro _;refine rq 8 fun K hK=>?_;refine st_app rfl _ _ 24 rfl wr.heap.size 40 2 underlying24 inf40 dc_ _ (0+k) _ rfl Ry3.out _ 1 [.string x.nm,.string x.tx] rfl (.inr ⟨⟨B5,0,none⟩,1,rfl,rfl,cl_row Cy3.out⟩) (by simp [Value.oneCell']) om_ Ly3.size ?_;intro v51 y4 Ry4 gy4 _;have Ly4:=gr_bW Ly3 gy4 Ly3.size (fun j e=>(Ry3.out.lt j e).1);have Ry4:=hdI Ry4;clear gy4 hH;refine hK.out _ _ ?_ fun hH=>?_
   · exact sS.out _ Ly4
   clear hK K
   try simp only [qq]
   refine rq 13 fun K hK=>?_;refine st_app rfl _ _ 24 rfl wr.heap.size 40 2 underlying24 inf40 dc_ _ (0+k+1) _ rfl Ry4.out _ (gs.length - k) _ rfl (S2.out y4 Ly4) (fun v hv=>fi_one gs v (List.mem_of_mem_drop hv)) om_ Ly4.size ?_;intro v56 y5 Ry5 gy5 _;rw [show 0+k+1+(gs.length - k)=gs.length+1 from by omega,List.nil_append] at Ry5;have Ly5:=gr_bW Ly4 gy5 Ly4.size (fun j e=>(Ry4.out.lt j e).1);obtain ⟨va5,vc5,rfl⟩:=row_sl Ry5;have Ry5:=hdI Ry5;clear gy5 hH;refine hK.out _ _ ?_ fun hH=>?_
   · exact sS.out _ Ly5
   clear hK K
   try simp only [qq]
   refine tq 14 hH ?_
   try simp only [qq]
   refine rq 15 fun K hK=>?_;have C5:=H.out.h2.below Ly5 hz1;have e2:=C5.cell 0;have e3:=C5.opn 0;dsimp only [List.getElem?_cons_zero] at e2;obtain ⟨s1,s2,s3⟩:=sS.out y5 Ly5;go_simp;clear hH;refine hK.out _ _ ?_ fun hH=>?_
   · exact ⟨(World.cell?_setCell_other _ _ _ _ (by simp <;> omega)).trans s1,(World.cell?_setCell_other _ _ _ _ sm_).trans s2,(World.cell?_setCell_other _ _ _ _ sm_).trans s3⟩
   clear hK K
   try simp only [qq]
   refine tq 16 hH ?_
   try simp only [qq]
   refine wpAnyH_done kr_ ?_ _;clear hH;go_wp2;have er:=World.cell?_setCell_same y5 ⟨w.heap.size+1+1,0,none⟩ (.slice va5 (gs.length+1) vc5) e2;refine bodyPost_ret (v:=.tuple #[.agg #[.slice va5 (gs.length+1) vc5],.int .i64 0]) (by simp [results,Tryz.results36,go_sem,er]) rfl ⟨⟨_,0,gs.take k++[x]++gs.drop k,rfl,?_,so_,(fun y hy=>?_),setR_ok HTR.out HFO.out HFI.out om_ hk HU.out HS.out⟩,?_⟩
   · have h:=owns_mono (own_stW (b:=w.heap.size+1+1) (j:=0) (x:=.slice va5 (gs.length+1) vc5) Ry5.out om_) (B':=w.heap.size) om_
     have e1:(gs.take k++[x]++gs.drop k).length=gs.length+1:=so_;rw [e1,fiC_app,fiC_app,fiC_take,fiC_drop];exact h
   · simp only [List.mem_append,List.mem_singleton] at hy
     rcases hy with (h | h) | h
     · exact .inl (HSUB.out y (List.mem_of_mem_take h))
     · exact .inr h
     exact .inl (HSUB.out y (List.mem_of_mem_drop h))
   exact (H.out.b.trans (Ly5.mono H.out.b.size)).setCell (by show w.heap.size<=w.heap.size+1+1;omega) _
end Go.Proofs.YtlckdgjfniglfaaGreatDoor.T
