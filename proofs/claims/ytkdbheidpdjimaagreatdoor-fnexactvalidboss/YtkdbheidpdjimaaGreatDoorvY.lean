import Derived.Test.YtkdbheidpdjimaaGreatDoortWE
import Derived.Test.YtkdbheidpdjimaaGreatDoorvQ
set_option maxHeartbeats 8000000
set_option maxRecDepth 100000
set_option linter.unusedVariables false
namespace Go.Proofs.YtkdbheidpdjimaaGreatDoor.T
open Proofs.Tryz Go.RowKit
variable {w u:World} {base size n:Nat} {e t:TypeId} {v:Value} {xs:List Value}
theorem row0 (w:World) (e:TypeId) (size:Nat) (a:base<=w.heap.size):(w.alloc (.cells #[] e)).ownsRow base e size (.slice (some ⟨w.heap.size,0,none⟩) 0 0) 0 []:=
 ⟨I4,.inr ⟨w.heap.size,0,#[],rfl,a,heap_alloc_new w _,Y9 _,O6,I4,I4⟩⟩
theorem aT (fs:List F2) (k:Nat) (h:k<fs.length):(Ou fs)[k*2]?=some (.string (fs.getD k P8).nm):=by
 induction fs generalizing k with
 | nil=>cases h
 | cons x r ih=>
  cases k with
  | zero=>simp [Ou]
  | succ k=>
   have:=ih k (by simpa using h);rw [Wl];simpa [Ou] using this
theorem pJ (a b:List F2):Ou (a++b)=Ou a++Ou b:=Dq
theorem jQ (l:List F2) (k:Nat):Ou (l.take k)=(Ou l).take (k*2):=by
 induction l generalizing k with
 | nil=>simp [Ou]
 | cons x r ih=>
  cases k with
  | zero=>simp [Ou]
  | succ k=>rw [Wl];have:=ih k;simp [Ou] at this ⊢;exact this
theorem iP (l:List F2) (k:Nat):Ou (l.drop k)=(Ou l).drop (k*2):=by
 induction l generalizing k with
 | nil=>simp [Ou]
 | cons x r ih=>
  cases k with
  | zero=>simp [Ou]
  | succ k=>rw [Wl];have:=ih k;simp [Ou] at this ⊢;exact this
theorem rJ (h:w.ownsRow base e size v n xs) (i m:Nat) (d:i+m<=n) (c b:Nat) (a:OA) (hv:v=.slice a n b) (hc:m=0\/b≠i) (f:∀ g,v.ownBlock=some g->u.heap[g]?=w.heap[g]?):Src u (.slice (if b=i then a else a.map (·.add (i*size))) m c) size m ((xs.drop (i*size)).take (m*size)):=by
 rcases h.2 with ⟨h1,h2⟩ | ⟨g,o,cur,h1,hb,l,hnc,hcm,hcs,k⟩
 · subst h2;obtain rfl:=Nat.le_zero.1 (Q7 (Nat.le_add_left m i) d);have:a=none:=by rw [h1] at hv;injection hv with h;exact h.symm
   subst this;exact .inl ⟨⟨c,I4⟩,rfl,I4⟩
 have:a=some ⟨g,0,none⟩/\b=o:=by rw [h1] at hv;injection hv with h h2 h3;exact ⟨h.symm,h3.symm⟩
 obtain ⟨rfl,rfl⟩:=this;by_cases h0:m=0
 · subst h0;refine .inr ⟨if b=i then ⟨g,0,none⟩ else (⟨g,0,none⟩:Addr).add (i*size),c,by split <;> rfl,I4,fun j x e=>by simp at e⟩
 rw [A8 (hc.resolve_left h0)];have hm:(i+m)*size<=n*size:=Nat.mul_le_mul_right _ d;rw [Nat.add_mul] at hm;refine .inr ⟨(⟨g,0,none⟩:Addr).add (i*size),c,rfl,by simp;have:=h.1;omega,fun j x e=>?_⟩;rw [uz] at e;split at e;rotate_left
 · cases e
 rw [OD,<- k,uz] at e;split at e;rotate_left
 · cases e
 rw [Vt,Vt,Lib.cell_of_heap ((f g (by rw [h1];rfl)).trans l)];simpa using e
theorem DY {va:OA} {a:Nat} {gs:List F2} (h:w.ownsRow base 99 2 (.slice va gs.length a) gs.length (Ou gs)) {k:Nat} (c:k<gs.length):∃ g,va=some ⟨g,0,none⟩/\w.cell? ⟨g,k*2,none⟩=some (.string (gs.getD k P8).nm):=by
 rcases h.2 with ⟨h1,h2⟩ | ⟨g,cp,cur,h1,hb,d,hnc,hcm,hcs,b⟩
 · omega
 injection h1 with h1 _ _;refine ⟨g,h1,?_⟩;have e:=aT gs k c;rw [<- b,uz,G8 O0] at e;rw [Lib.cell_of_heap d,<- e];simp
theorem a0u (ht:prog.underlying t=some (.slice e)) (he:prog.elem t=e) (c:∀ u,(sizeOf e).run prog u=.ok size u) (h:w.ownsRow base e size v n xs) {k:Nat} (hk:k<=n):∃ v',(∀ u,(Instr.slice t v none (some (.int .i64 (k:Int))) none).run prog u=.ok v' u)/\∀ u,(∀ g,v.ownBlock=some g->u.heap[g]?=w.heap[g]?)->Src u v' size k (xs.take (k*size)):=by
 obtain ⟨a,b,hv⟩:=Za h;have hc:n<=b:=by
  rcases h.2 with ⟨h1,h2⟩ | ⟨g,cp,cur,h1,hb,hg,hnc,_⟩
  · omega
  rw [h1] at hv;injection hv with _ _ h3;omega
 subst hv;refine ⟨vL (if b=0 then a else a.map (·.add (0*size))) k b,fun u=>?_,fun u d=>?_⟩
 · rw [run_slice_h u t a n b (by rw [he];exact ht) .i64 k O0 O0,he,c];simp [sliced,Result.andThen]
 have:=rJ h 0 k O0 b b a rfl O0 d;simpa using this
theorem VY (ht:prog.underlying t=some (.slice e)) (he:prog.elem t=e) (c:∀ u,(sizeOf e).run prog u=.ok size u) (h:w.ownsRow base e size v n xs) {k:Nat} (hk:k<=n):∃ v',(∀ u,(Instr.slice t v (some (.int .i64 (k:Int))) none none).run prog u=.ok v' u)/\∀ u,(∀ g,v.ownBlock=some g->u.heap[g]?=w.heap[g]?)->Src u v' size (n - k) (xs.drop (k*size)):=by
 obtain ⟨a,b,hv⟩:=Za h;have hc:n<=b:=by
  rcases h.2 with ⟨h1,h2⟩ | ⟨g,cp,cur,h1,hb,hg,hnc,_⟩
  · omega
  rw [h1] at hv;injection hv with _ _ h3;omega
 subst hv;refine ⟨vL (if b=k then a else a.map (·.add (k*size))) (n - k) (b - k),fun u=>?_,fun u d=>?_⟩
 · rw [run_slice_l u t a n b (by rw [he];exact ht) .i64 k O0 O0,he,c];simp [sliced,Result.andThen]
 have:=rJ h k (n - k) O0 (b - k) b a rfl O0 d;rw [u_ (by simp [h.1,Nat.sub_mul])] at this;exact this
structure W9 (w:World) (A:Value) (x:F2) (u:World):Prop where
 b:Bw w u
 h0:Cl u w.heap.size 41 [A]
 h1:Cl u (w.heap.size+1) 99 [.string x.nm,.string x.tx]
 h2:Cl u (w.heap.size+1+1) 41 [.slice none 0 0]
theorem W9.below {w:World} {A:Value} {x:F2} {u u':World} (h:W9 w A x u) (a:Bw u u'):W9 w A x u':=
 ⟨h.b.trans (a.mono h.b.size),h.h0.below a h.h0.lt,h.h1.below a h.h1.lt,h.h2.below a h.h2.lt⟩
def ZW (gs:List F2) (x:F2) (k:Nat):Prop:=∀ j,j<k->lt (gs.getD j P8).nm x.nm=true
def Stop (gs:List F2) (x:F2) (k:Nat):Prop:=k<gs.length->lt (gs.getD k P8).nm x.nm=false
theorem TS {fs gs:List F2} {x:F2} {k:Nat} (ht:J_ fs) (hf:V_ x=true) (d:gs=fs.filter (nq x.nm)) (hl:gs.length<40) (c:k<=gs.length) (a:ZW gs x k) (b:Stop gs x k):Tn fs x 0 (gs.take k++[x]++gs.drop k):=by
 have e:without fs x.nm=gs:=d.symm;refine .inr (.inr (.inr ⟨ht,hf,by rw [e];exact hl,rfl,k,?_,?_⟩))
 · rw [e];refine ⟨c,a,?_⟩;rcases o8 k gs.length with h | h
   · exact .inr (b h)
   exact .inl O0
 rw [e];unfold ins;simp
def a0z (w:World) (fs:List F2) (x:F2) (e:Ending) (w':World):Prop:=∃ v c gs,e=.returned (.tuple #[.agg #[v],.int .i64 c])/\w'.ownsRow w.heap.size 99 2 v gs.length (Ou gs)/\gs.length<=40/\(∀ y∈gs,y∈fs\/y=x)/\Tn fs x c gs
theorem rE (gs:List F2):∀ v∈Ou gs,v.oneCell'=true:=fun v hv=>by
 obtain ⟨x,_,h⟩:=SE.1 hv;simp at h;rcases h with rfl | rfl <;> rfl
theorem jW {w w':World} {b:Nat} {t:TypeId} {xs:List Value} {g:Nat} {n c:Nat} (h:Cl w b t xs) (d:w.grownBy w' (Value.slice (some ⟨g,0,none⟩) n c).ownBlock) (a:b≠g):Cl w' b t xs:=(d.block b h.lt (fun e=>a (Q9 e))).trans h
theorem jY {w u:World} {x:F2} {fs:List F2} (g:u.cell? ⟨w.heap.size+1+1,0,none⟩=some (.slice none 0 0)) (b:Bw w u) (c:Int) (hc:Tn fs x c []) (a:Array Value) (f:a[4]?=some (.pointer (some ⟨w.heap.size+1+1,0,none⟩))) (d:a[5]?=some (.int .i64 c)):bodyPost prog f102 (fun e w'=>a0z w fs x e w'/\Bw w w') .ret ⟨a,[]⟩ u:=
 P7 (v:=.tuple #[.agg #[vN],vI c]) (by simp [results,results102,go_sem,g,f,d]) rfl ⟨⟨_,_,[],rfl,ng _ _ _ _,I4,(fun y h=>nomatch h),hc⟩,b⟩
theorem a0W (a:OA) (Y:Nat) (fs:List F2) (x:F2) (w:World) (hl:fs.length<=1000) (hs:∀ i,(fs.getD i P8).le 4000) (hx:x.le 4000) (hat:J6 w a fs):
 Calls prog 102 #[.agg #[.slice a fs.length Y],.agg #[.string x.nm,.string x.tx]] w fun e w'=>a0z w fs x e w'/\Bw w w':=by
 have HAT:=iq hat;clear hat;go_enter func102,ntmps102
 go_wp2_with fail
 obtain ⟨W,hW⟩:∃ W:World,W=((w.alloc (.cells #[vL a fs.length Y] 41)).alloc (.cells #[vS x.nm,vS x.tx] 99)).alloc (.cells #[vN] 41):=⟨_,rfl⟩;rw [<- hW];have H:Hid (W9 w (vL a fs.length Y) x W):=by
  rw [hW];exact ⟨(o7.alloc I4 _).alloc U7 _,Oa (Oa (G6 w [_] 41) _) _,Oa (Nv (xs:=[_,_]) I4) _,Nv (xs:=[_]) I4⟩
 clear hW;refine (c156 a Y fs W O0 (fun i=>⟨Q7 (hs i).1 O0,Q7 (hs i).2 O0⟩) (U5 HAT.out H.out.b)).mono ?_;rintro e w1 ⟨⟨b,rfl,hbt⟩,hb1⟩;have L:=iq (H.out.below hb1);have HTT:=iq hbt.1;have HTN:=iq hbt.2;clear H hbt hb1;have E:=L.out.h0.cell 0;have r:=L.out.h1.cell 0;have q:=L.out.h1.cell 1;have n:=L.out.h2.cell 0;have Q:=L.out.h2.opn 0;simp only [@gz Value] at E r q n;cases b
 · go_wp2;exact jY (Bf _ _ _ n) (L.out.b.setCell (by show _<=w.heap.size+1+1;omega) _) 1 (.inl ⟨fun h=>absurd (HTN.out h) O6,rfl,rfl⟩) _ rfl rfl
 have HTR:=iq (HTT.out rfl);clear HTT
 go_wp2_with fail
 refine (sV x w1 ⟨Q7 hx.1 O0,Q7 hx.2 O0⟩).mono ?_;rintro e w2 ⟨rfl,hb2⟩;have s:=iq (L.out.below hb2);clear L hb2 E r q n Q;have E:=s.out.h0.cell 0;have r:=s.out.h1.cell 0;have q:=s.out.h1.cell 1;have n:=s.out.h2.cell 0;have Q:=s.out.h2.opn 0;simp only [@gz Value] at E r q n;cases hf:V_ x
 · go_wp2;exact jY (Bf _ _ _ n) (s.out.b.setCell (by show _<=w.heap.size+1+1;omega) _) 2 (.inr (.inl ⟨HTR.out,hf,rfl,rfl⟩)) _ rfl rfl
 go_wp2_with fail
 refine (a0r a Y fs x.nm w2 hl (U5 HAT.out s.out.b)).mono ?_;rintro e B ⟨⟨v,gs,rfl,hr,hg,hsub,hfi⟩,hb3⟩;have HFI:=iq hfi;have HFO:=iq hf;have A:=iq (s.out.below hb3);have J:=iq hr;have a5I:=iq hsub;have hz2:=s.out.b.size;have h2l:=s.out.h2.lt;clear s hb3 hr hsub hfi E r q n Q hf;obtain ⟨va,O,rfl⟩:=Za J.out;have E:=A.out.h0.cell 0;have r:=A.out.h1.cell 0;have q:=A.out.h1.cell 1;have n:=A.out.h2.cell 0;have Q:=A.out.h2.opn 0;simp only [@gz Value] at E r q n;have hz3:=A.out.h2.lt;have hz1:=A.out.h1.lt;by_cases hbig:40<=gs.length
 · go_wp2;exact jY ((Wh _ _ _ U7).trans (Bf _ _ _ n)) ((A.out.b.setCell (by show _<=w.heap.size+1+1;omega) _).alloc U7 _) 3 (.inr (.inr (.inl ⟨HTR.out,HFO.out,(by show 40<=(fs.filter (nq x.nm)).length;rw [<- HFI.out];exact hbig),rfl,rfl⟩))) _ rfl rfl
 obtain ⟨w4,hw4⟩:∃ u:World,u=B.alloc (.cells #[vL va gs.length O] 41):=⟨_,rfl⟩;have hb4:Bw B w4:=by rw [hw4];exact o7
 have R:Hid (Cl w4 B.heap.size 41 [vL va gs.length O]):=by show Cl _ _ _ _;rw [hw4];exact G6 B [_] 41
 have H4:=iq (A.out.below hb4);have HR4:=iq (ownsRow_below J.out hb4)
 go_wp2_with fail
 rw [<- hw4];clear hw4;have hz4:=R.out.lt;clear E r q n Q A J;go_loopw [7] (fun i wr=>Hid (Below w4.heap.size w4 wr)/\∃ k:Nat,i=.int .i64 k/\k<=gs.length/\Hid (ZW gs x k)) (fun i _=>gs.length - (intOf i).toNat)
 case atStart=>exact ⟨Z4 _ _,0,rfl,D5 _,fun j h=>absurd h (o9 _)⟩
 obtain ⟨X,k,rfl,hk,HU⟩:=hrel;have H:=iq (H4.out.below X.out);have R:=iq (R.out.below X.out R.out.lt);have J:=iq (ownsRow_below HR4.out X.out);clear H4 HR4;have hz1:=H.out.h2.lt;have hz4:B.heap.size<wr.heap.size:=R.out.lt;have r:=H.out.h1.cell 0;have q:=H.out.h1.cell 1;have n:=H.out.h2.cell 0;have Q:=H.out.h2.opn 0;have d3:=R.out.cell 0;simp only [@gz Value] at r q n d3;have HST:Hid (∀ kk:Nat,kk<gs.length->∃ g,va=some ⟨g,0,none⟩/\wr.cell? ⟨g,kk*2,none⟩=some (vS (gs.getD kk P8).nm)):=fun kk hkk=>DY J.out hkk;have HOW:Hid (∀ y,Bw wr y->∀ g,(Value.slice va gs.length O).ownBlock=some g->y.heap[g]?=wr.heap[g]?):=fun y f g e=>f.block g (J.out.lt g e).2;have p:Hid (∀ y,Bw wr y->y.cell? ⟨B.heap.size,0,none⟩=some (vL va gs.length O)/\y.cell? ⟨w.heap.size+1,0,none⟩=some (vS x.nm)/\y.cell? ⟨w.heap.size+1,1,none⟩=some (vS x.tx)):=fun y f=>⟨(f.cell hz4).trans d3,(f.cell (by show w.heap.size+1<_;omega)).trans r,(f.cell (by show w.heap.size+1<_;omega)).trans q⟩;have hcase:(∃ g,k<gs.length/\va=some ⟨g,0,none⟩/\wr.cell? ⟨g,k*2,none⟩=some (vS (gs.getD k P8).nm))\/k=gs.length:=by
  rcases o8 k gs.length with h | h
  · obtain ⟨g,h1,h2⟩:=HST.out k h;exact .inl ⟨g,h,h1,h2⟩
  exact .inr O0
 clear HST;have mark:True:=trivial;rcases hcase with ⟨g,hlt,rfl,hgc⟩ | hlt
 case' inl=>
  have HL1:Hid (Op.bytesLess (gs.getD k P8).nm.toList x.nm.toList=true->ZW gs x (k+1)):=fun h j hj=>by
   rcases o8 j k with h1 | h1
   · exact HU.out j h1
   obtain rfl:j=k:=O0;exact h
  have HL0:Hid (Op.bytesLess (gs.getD k P8).nm.toList x.nm.toList=false->Stop gs x k):=fun h _=>h;generalize (gs.getD k P8).nm=nk at*
  go_wp2_with fail
  refine wp_region_held_drew (S:=fun u=>u.cell? ⟨B.heap.size,0,none⟩=some (vL (some ⟨g,0,none⟩) gs.length O)/\u.cell? ⟨w.heap.size+1,0,none⟩=some (vS x.nm)/\u.cell? ⟨g,k*2,none⟩=some (vS nk)) J3 ?_ fun hH=>?_
  · ((try dsimp only);go_keep)
  refine tq 0 hH ?_;refine tq 1 hH ?_;refine tq 2 hH ?_;refine tq 3 hH ?_;refine tq 4 hH ?_;refine Y0 5 ?_;refine tq 6 hH ?_;refine tq 7 hH ?_;refine Y0 8 ?_;refine tq 9 hH ?_;refine tq 10 hH ?_;refine Y0 11 ?_;refine tq 12 hH ?_;refine tq 13 hH ?_;refine Y0 14 ?_;refine Y0 15 ?_;refine wdn ?_;clear hH hgc;go_simp;generalize (Op.bytesLess nk.toList x.nm.toList)=lb at*;cases lb;rotate_left
  · have HU:=iq (HL1.out rfl);clear HL1 HL0;go_wp2;go_roundw
    case rel=>exact ⟨X.out.trans ((Z4 _ _).drew.mono X.out.size),k+1,by go_num,O0,HU⟩
    case measure=>simp [intOf];omega
  have HS:=iq (HL0.out rfl);clear HL1 HL0
  go_wp2_with fail
  clear hlt;generalize (some (⟨g,0,none⟩:Addr))=va at*;revert mark
 case' inr=>
  have hnl:decide (k<gs.length)=false:=P9 O0;have HS:Hid (Stop gs x k):=fun h=>absurd h O0;clear hlt
  go_wp2_with fail
  refine wp_region_held_drew (S:=fun u=>u.cell? ⟨B.heap.size,0,none⟩=some (vL va gs.length O)) J3 ?_ fun hH=>?_
  · ((try dsimp only);go_keep)
  refine tq 0 hH ?_;refine tq 1 hH ?_;refine tq 2 hH ?_;refine tq 3 hH ?_;refine tq 4 hH ?_;refine Y0 5 ?_;refine uq 6 hH ?_;refine Y4 7 ?_;refine uq 8 hH ?_;refine Y4 9 ?_;refine uq 10 hH ?_;refine Y4 11 ?_;refine uq 12 hH ?_;refine Y4 13 ?_;refine Y4 14 ?_;refine Y0 15 ?_;refine wdn ?_
  go_wp2_with fail
  revert mark
 all_goals
  intro _;obtain ⟨v47,hs1,SR1⟩:=a0u (t:=39) underlying39 J3 (fun u=>sizeOf99 u) J.out hk;obtain ⟨v55,hs2,SR2⟩:=VY (t:=39) underlying39 J3 (fun u=>sizeOf99 u) J.out hk;have S1:Hid (∀ y,Bw wr y->Src y v47 2 k ((Ou gs).take (k*2))):=fun y f=>SR1 y (HOW.out y f);have S2:Hid (∀ y,Bw wr y->Src y v55 2 (gs.length - k) ((Ou gs).drop (k*2))):=fun y f=>SR2 y (HOW.out y f);clear SR1 SR2;refine wp_region_held_drew (S:=fun u=>u.cell? ⟨B.heap.size,0,none⟩=some (vL va gs.length O)/\u.cell? ⟨w.heap.size+1,0,none⟩=some (vS x.nm)/\u.cell? ⟨w.heap.size+1,1,none⟩=some (vS x.tx)) J3 ?_ fun hH=>?_
  · exact p.out _ (Z4 _ wr).drew.drew
  obtain ⟨u,hu⟩:∃ u:World,u=wr.drew.drew:=⟨_,rfl⟩;rw [<- hu] at hH ⊢;have Lu:Bw wr u:=by rw [hu];exact (Z4 _ wr).drew.drew
  clear hu;refine tq 1 hH ?_;refine tq 2 hH ?_;refine Y0 3 ?_;refine tq 4 hH ?_;refine Y0 6 ?_;refine tq 9 hH ?_;refine tq 10 hH ?_;refine Y0 11 ?_;refine Y0 12 ?_;have a4u:True:=trivial;have row:Hid (∀ y,Bw wr y->Bw wr (y.alloc (.cells #[] 99))/\(y.alloc (.cells #[] 99)).ownsRow wr.heap.size 99 2 (vL (some ⟨y.heap.size,0,none⟩) 0 0) 0 []):=fun y f=>⟨f.alloc f.size _,row0 y 99 2 f.size⟩;refine wpAnyH_ready (rs:=[0,7]) J3 I4 (AllReadyH.cons (o:=⟨some 43,.buildSlice 39 0 #[],39,_,_,none⟩) rfl (fun K c=>?_) (AllReadyH.cons (o:=⟨some 50,.buildSlice 39 1 #[(0,.tmp 49)],39,_,_,none⟩) rfl (fun K c=>?_) AllReadyH.nil));rotate_left;go_simp;obtain ⟨d,D⟩:∃ y:World,y=u.alloc (.cells #[vS x.nm,vS x.tx] 99):=⟨_,rfl⟩;rw [<- D];have by1:Bw u d:=by rw [D];exact o7
  have Cy1:Hid (Cl d u.heap.size 99 [vS x.nm,vS x.tx]):=by show Cl _ _ _ _;rw [D];exact G6 u _ 99
  have z:Bw wr d:=G7 Lu by1;clear D hH;refine J8 c ?_ fun hH=>?_
  · exact p.out _ z
  clear c K;refine rq 0 fun K c=>?_;go_simp;obtain ⟨l,C⟩:∃ y:World,y=d.alloc (.cells #[] 99):=⟨_,rfl⟩;rw [<- C];have Z:Bw d l:=by rw [C];exact o7
  have U:=iq (row.out d z).2;rw [<- C] at U;have m:Bw wr l:=G7 z Z;clear C hH;have N:=iq (Cy1.out.below Z Cy1.out.lt);refine J8 c ?_ fun hH=>?_
  · exact p.out _ m
  clear c K;refine rq 5 fun K c=>?_;refine Pm rfl _ _ 39 rfl wr.heap.size 99 2 underlying39 yB O6 _ 0 [] rfl U.out _ k _ rfl (S1.out l m) (fun v hv=>rE gs v (qy hv)) O0 m.size ?_;intro v48 V F P _;have I:=qi m P m.size (fun j e=>(U.out.lt j e).1);have F:=iq F;have N:=iq (jW N.out P (by have:=Cy1.out.lt;omega));clear P hH;refine J8 c ?_ fun hH=>?_
  · exact p.out _ I
  clear c K;generalize u.heap.size=B5 at N ⊢;revert a4u;rotate_left;go_simp;obtain ⟨d,D⟩:∃ y:World,y=u.alloc (.cells #[] 99):=⟨_,rfl⟩;rw [<- D];have by1:Bw u d:=by rw [D];exact o7
  have Ey1:=iq (row.out u Lu).2;rw [<- D] at Ey1;have z:Bw wr d:=G7 Lu by1;clear D hH;refine J8 c ?_ fun hH=>?_
  · exact p.out _ z
  clear c K;refine wpAnyH_ready (rs:=[5,7]) J3 I4 (AllReadyH.cons (o:=⟨some 48,.call ⟨.builtin .append,#[.tmp 43,.tmp 47],#[39,39]⟩,39,_,_,none⟩) rfl (fun K c=>?_) (AllReadyH.cons (o:=⟨some 50,.buildSlice 39 1 #[(0,.tmp 49)],39,_,_,none⟩) rfl (fun K c=>?_) AllReadyH.nil));refine Pm rfl _ _ 39 rfl wr.heap.size 99 2 underlying39 yB O6 _ 0 [] rfl Ey1.out _ k _ rfl (S1.out d z) (fun v hv=>rE gs v (qy hv)) O0 z.size ?_;intro v48 l Ry2 gy2 _;have m:=qi z gy2 z.size (fun j e=>(Ey1.out.lt j e).1);have Ry2:=iq Ry2;clear gy2 hH;refine J8 c ?_ fun hH=>?_
  · exact p.out _ m
  clear c K;refine rq 7 fun K c=>?_;go_simp;obtain ⟨V,hy3⟩:∃ y:World,y=l.alloc (.cells #[vS x.nm,vS x.tx] 99):=⟨_,rfl⟩;rw [<- hy3];have by3:Bw l V:=by rw [hy3];exact o7
  have N:Hid (Cl V l.heap.size 99 [vS x.nm,vS x.tx]):=by show Cl _ _ _ _;rw [hy3];exact G6 l _ 99
  have I:Bw wr V:=G7 m by3;clear hy3 hH;have F:=iq (ownsRow_below Ry2.out by3);refine J8 c ?_ fun hH=>?_
  · exact p.out _ I
  clear c K;generalize l.heap.size=B5 at N ⊢;revert a4u;rotate_left;go_simp;obtain ⟨l,C⟩:∃ y:World,y=d.alloc (.cells #[vS x.nm,vS x.tx] 99):=⟨_,rfl⟩;rw [<- C];have Z:Bw d l:=by rw [C];exact o7
  have Cy2:Hid (Cl l d.heap.size 99 [vS x.nm,vS x.tx]):=by show Cl _ _ _ _;rw [C];exact G6 d _ 99
  have m:Bw wr l:=G7 z Z;clear C hH;have U:=iq (ownsRow_below Ey1.out Z);refine J8 c ?_ fun hH=>?_
  · exact p.out _ m
  clear c K;refine rq 5 fun K c=>?_;refine Pm rfl _ _ 39 rfl wr.heap.size 99 2 underlying39 yB O6 _ 0 [] rfl U.out _ k _ rfl (S1.out l m) (fun v hv=>rE gs v (qy hv)) O0 m.size ?_;intro v48 V F P _;have I:=qi m P m.size (fun j e=>(U.out.lt j e).1);have F:=iq F;have N:=iq (jW Cy2.out P (by have:u.heap.size<d.heap.size:=(Ey1.out.lt _ rfl).2;omega));clear P hH;refine J8 c ?_ fun hH=>?_
  · exact p.out _ I
  clear c K;generalize d.heap.size=B5 at N ⊢;revert a4u
  all_goals
   intro _;refine rq 8 fun K c=>?_;refine Pm rfl _ _ 39 rfl wr.heap.size 99 2 underlying39 yB O6 _ (0+k) _ rfl F.out _ 1 [vS x.nm,vS x.tx] rfl (.inr ⟨⟨B5,0,none⟩,1,rfl,rfl,pI N.out⟩) (by simp [Value.oneCell']) O0 I.size ?_;intro v51 y4 Ry4 gy4 _;have Ly4:=qi I gy4 I.size (fun j e=>(F.out.lt j e).1);have Ry4:=iq Ry4;clear gy4 hH;refine J8 c ?_ fun hH=>?_
   · exact p.out _ Ly4
   clear c K;refine rq 13 fun K c=>?_;refine Pm rfl _ _ 39 rfl wr.heap.size 99 2 underlying39 yB O6 _ (0+k+1) _ rfl Ry4.out _ (gs.length - k) _ rfl (S2.out y4 Ly4) (fun v hv=>rE gs v (RI hv)) O0 Ly4.size ?_;intro v56 y5 Ry5 gy5 _;rw [show 0+k+1+(gs.length - k)=gs.length+1 from by omega,M_] at Ry5;have Ly5:=qi Ly4 gy5 Ly4.size (fun j e=>(Ry4.out.lt j e).1);obtain ⟨va5,vc5,rfl⟩:=Za Ry5;have Ry5:=iq Ry5;clear gy5 hH;refine J8 c ?_ fun hH=>?_
   · exact p.out _ Ly5
   clear c K;refine Y0 14 ?_;refine rq 15 fun K c=>?_;have C5:=H.out.h2.below Ly5 hz1;have e2:=C5.cell 0;have e3:=C5.opn 0;dsimp only [List.getElem?_cons_zero] at e2;obtain ⟨s1,s2,s3⟩:=p.out y5 Ly5;go_simp;clear hH;refine J8 c ?_ fun hH=>?_
   · exact ⟨(La _ _ _ _ (by simp <;> omega)).trans s1,(La _ _ _ _ I4).trans s2,(La _ _ _ _ I4).trans s3⟩
   clear c K;refine Y0 16 ?_;refine wdn ?_;clear hH;go_wp2;have er:=Bf y5 ⟨w.heap.size+1+1,0,none⟩ (vL va5 (gs.length+1) vc5) e2;refine P7 (v:=.tuple #[.agg #[vL va5 (gs.length+1) vc5],vO]) (by simp [results,results102,go_sem,er]) rfl ⟨⟨_,0,gs.take k++[x]++gs.drop k,rfl,?_,U7,(fun y f=>?_),TS HTR.out HFO.out HFI.out O0 hk HU.out HS.out⟩,?_⟩
   · have h:=yg (QC (b:=w.heap.size+1+1) (j:=0) (x:=vL va5 (gs.length+1) vc5) Ry5.out O0) (B':=w.heap.size) O0;have e1:(gs.take k++[x]++gs.drop k).length=gs.length+1:=U7;rw [e1,pJ,pJ,jQ,iP];exact h
   · simp only [jh,dw] at f;rcases f with (h | h) | h
     · exact .inl (a5I.out y (qy h))
     · exact .inr h
     exact .inl (a5I.out y (RI h))
   exact (H.out.b.trans (Ly5.mono H.out.b.size)).setCell (by show w.heap.size<=w.heap.size+1+1;omega) _
end Go.Proofs.YtkdbheidpdjimaaGreatDoor.T
namespace Go.Proofs.YtkdbheidpdjimaaGreatDoor
open Proofs.Tryz Go.RowKit
theorem c4 (b:Bs) (q:Ba) (l:Int) (w:World) (h0:0<=l) (h1:l<=1048576) (S:Bo b 9223372036854775807) (U:Dn w b q):
 Calls prog 4 #[.agg (bsV b q).toArray,.int .i64 l] w fun e w'=>(∃ r:Int,e=.returned (.int .i64 r)/\(0<=r->Bo b 1048576/\b.sf.length+b.lo.length<=1048576))/\Bw w w':=by
 have f:=U0 U;have c:=U0 S;clear U S;go_enter func4,ntmps4
 go_upto_region 1 with fail
 have j:=U0 (G6 w (bsV b q) 35);have L:=U0 (o7 (w:=w) (o:=.cells (bsV b q).toArray 35));generalize w.alloc (.cells (bsV b q).toArray 35)=V0 at*;have Z:=j.out.cell 5;have Y:=j.out.cell 6;simp only [@gz Value] at Z Y
 go_wp2_with fail
 clear Z Y;refine (c9 q.sa q.la q.sc q.lc b.sf b.lo l V0 h0 h1 c.out.ss c.out.ls c.out.sl c.out.ll (Z5 f.out.sf L.out) (Z5 f.out.lo L.out)).mono ?_;rintro e V1 ⟨⟨u,rfl,hr⟩,a⟩;have R1:=U0 hr;have K:=U0 (G7 L.out a);have E:=U0 (j.out.below a j.out.lt);clear hr a j L;by_cases d:u<0
 · go_wp2;go_ret;exact ⟨⟨-1,rfl,fun h=>O0⟩,K.out⟩
 have i:=R1.out O0;have F1:=U0 (i.1);have F2:=U0 (i.2.1);have Q:=U0 (i.2.2.1);have e1:u<=1048576:=by have:=i.2.2.2;omega
 have n1:0<=u:=O0;clear R1 i d;have X:=E.out.cell 7;simp only [@gz Value] at X
 go_wp2_with fail
 clear X;refine (c10 q.fa q.fc b.fs u V1 O0 O0 c.out.fz c.out.fl (T.U5 f.out.fs K.out)).mono ?_;rintro e V2 ⟨⟨t,rfl,hr⟩,a⟩;have R2:=U0 hr;have J:=U0 (G7 K.out a);have g:=U0 (E.out.below a E.out.lt);clear hr a E K;by_cases d:t<0
 · go_wp2;go_ret;exact ⟨⟨-1,rfl,fun h=>O0⟩,J.out⟩
 have z:=R2.out O0;have F4:=U0 (z.1);have F5:=U0 (z.2.1);have e2:t<=1048576:=by have:=z.2.2;omega
 have n2:0<=t:=O0;clear R2 z d;have W:=g.out.cell 8;have V:=g.out.cell 9;have a10:=g.out.cell 10;simp only [@gz Value] at W V a10
 go_wp2_with fail
 clear W V a10;refine (c11 q.ta q.ra q.tc q.rc b.s t V2 O0 O0 c.out.st (f.out.st.below J.out)).mono ?_;rintro e V3 ⟨⟨p,rfl,hr⟩,a⟩;have R3:=U0 hr;have R:=U0 (G7 J.out a);have D:=U0 (g.out.below a g.out.lt);clear hr a g J;by_cases d:p<0
 · go_wp2;go_ret;exact ⟨⟨-1,rfl,fun h=>O0⟩,R.out⟩
 have O:=R3.out O0;have F6:=U0 (O.1.1);have e3:p<=1048576:=by have:=O.2;omega
 have n3:0<=p:=O0;clear R3 O d;have a11:=D.out.cell 11;simp only [@gz Value] at a11
 go_wp2_with fail
 clear a11;refine (c12 q.ha q.hc b.hd.length p V3 O0 O0 c.out.hl).mono ?_;rintro e P ⟨⟨n,rfl,hr⟩,a⟩
 replace a:Bw V3 P:=by rw [a];exact Z4 _ _
 have R4:=U0 hr;have I:=U0 (G7 R.out a);have C:=U0 (D.out.below a D.out.lt);clear hr a D R;by_cases d:n<0
 · go_wp2;go_ret;exact ⟨⟨-1,rfl,fun h=>O0⟩,I.out⟩
 have N:=R4.out O0;have F7:=U0 (N.1);have e4:n<=1048576:=by have:=N.2;omega
 have n4:0<=n:=O0;clear R4 N d;have a12:=C.out.cell 12;simp only [@gz Value] at a12
 go_wp2_with fail
 clear a12;refine (c13 q.oa q.oc b.rt n P O0 O0 c.out.rs c.out.rl (Z5 f.out.rt I.out)).mono ?_;rintro e V5 ⟨⟨m,rfl,hr⟩,a⟩
 replace a:Bw P V5:=by rw [a];exact Z4 _ _
 have R5:=U0 hr;have H:=U0 (G7 I.out a);have B:=U0 (C.out.below a C.out.lt);clear hr a C I;by_cases d:m<0
 · go_wp2;go_ret;exact ⟨⟨-1,rfl,fun h=>O0⟩,H.out⟩
 have y:=R5.out O0;have F8:=U0 (y.1);have F9:=U0 (y.2.1);have e5:m<=1048576:=by have:=y.2.2;omega
 have n5:0<=m:=O0;clear R5 y d;have a13:=B.out.cell 13;simp only [@gz Value] at a13
 go_wp2_with fail
 clear a13;refine (c14 q.na q.nc b.rn m V5 O0 O0 c.out.ns c.out.nl (rf f.out.rn H.out)).mono ?_;rintro e V6 ⟨⟨k,rfl,hr⟩,a⟩;have R6:=U0 hr;have F:=U0 (G7 H.out a);have A:=U0 (B.out.below a B.out.lt);clear hr a B H;by_cases d:k<0
 · go_wp2;go_ret;exact ⟨⟨-1,rfl,fun h=>O0⟩,F.out⟩
 have x:=R6.out O0;have FA:=U0 (x.1);have FB:=U0 (x.2.1);have e6:k<=1048576:=by have:=x.2.2;omega
 have n6:0<=k:=O0;clear R6 x d;have a14:=A.out.cell 14;simp only [@gz Value] at a14
 go_wp2_with fail
 clear a14;refine (c15 q.ja q.jc b.jb k V6 O0 O0 c.out.js c.out.jl (Xk f.out.jb F.out)).mono ?_;rintro e V7 ⟨⟨r7,rfl,hr⟩,a⟩;have R7:=U0 hr;have B7:=U0 (G7 F.out a);have C7:=U0 (A.out.below a A.out.lt);clear hr a A F;by_cases d:r7<0
 · go_wp2;go_ret;exact ⟨⟨-1,rfl,fun h=>O0⟩,B7.out⟩
 have v:=R7.out O0;have FC:=U0 (v.1);have FD:=U0 (v.2.1);have e7:r7<=1048576:=by have:=v.2.2;omega
 have n7:0<=r7:=O0;clear R7 v d;go_wp2;go_ret;exact ⟨⟨_,rfl,fun h=>⟨⟨by have:=Q.out;omega,F1.out,by have:=Q.out;omega,F2.out,F4.out,F5.out,F6.out,F7.out,F8.out,F9.out,FA.out,FB.out,FC.out,FD.out⟩,Q.out⟩⟩,B7.out⟩
theorem c43 (sa la a b:OA) (sc lc d f:Nat) (sf lo:LB) (w:World) (h1:sf.length<=1048576) (h2:lo.length<=1048576) (o:y8 w sa sf) (hl:y8 w la lo) (n:y8 w a sf) (p:y8 w b lo):
 Calls prog 43 #[.agg #[.slice sa sf.length sc,.slice la lo.length lc],.agg #[.slice a sf.length d,.slice b lo.length f]] w fun e w'=>e=.returned (.bool true)/\Bw w w':=by
 have y:=U0 o;have x:=U0 hl;have v:=U0 n;have u:=U0 p;clear o hl n p;go_enter func43,ntmps43
 go_upto_region 1 with fail
 have k:=U0 (Oa (G6 w [vL sa sf.length sc,vL la lo.length lc] 38) (.cells #[vL a sf.length d,vL b lo.length f] 38));have i:Hid (Cl ((w.alloc (.cells #[vL sa sf.length sc,vL la lo.length lc] 38)).alloc (.cells #[vL a sf.length d,vL b lo.length f] 38)) (w.heap.size+1) 38 [vL a sf.length d,vL b lo.length f]):=by show Cl _ _ _ _;have h:=G6 (w.alloc (.cells #[vL sa sf.length sc,vL la lo.length lc] 38)) [vL a sf.length d,vL b lo.length f] 38;simpa using h
 have m:Hid (Bw w ((w.alloc (.cells #[vL sa sf.length sc,vL la lo.length lc] 38)).alloc (.cells #[vL a sf.length d,vL b lo.length f] 38))):=o7.alloc I4 _;generalize (w.alloc (.cells #[vL sa sf.length sc,vL la lo.length lc] 38)).alloc (.cells #[vL a sf.length d,vL b lo.length f] 38)=z at*;have t:=k.out.cell 0;have r:=i.out.cell 0;simp only [@gz Value] at t r
 go_wp2_with fail
 clear t r;refine (c47 sa a sc d sf z h1 (Z5 y.out m.out) (Z5 v.out m.out)).mono ?_;rintro e V1 ⟨rfl,c⟩;have l:=U0 (G7 m.out c);have j:=U0 (k.out.below c k.out.lt);have g:=U0 (i.out.below c i.out.lt);clear c k i m;have s:=j.out.cell 1;have q:=g.out.cell 1;simp only [@gz Value] at s q
 go_wp2_with fail
 clear s q;refine (c47 la b lc f lo V1 h2 (Z5 x.out l.out) (Z5 u.out l.out)).mono ?_;rintro e V2 ⟨rfl,c⟩;have A:=U0 (G7 l.out c);have C2:=U0 (j.out.below c j.out.lt);have D2:=U0 (g.out.below c g.out.lt);clear c j g l;go_wp2;go_ret;exact ⟨rfl,A.out⟩
theorem c89 (x:Rn) (d b:OA) (f c:Nat) (w:World) (hl:x.ls.length<=1048576) (n:I9 w d x.ls) (m:I9 w b x.ls):
 Calls prog 89 #[.agg #[.string x.nm,.int .i64 x.md,.string x.wt,.slice d x.ls.length f,.int .i64 x.cd,.string x.tx],.agg #[.string x.nm,.int .i64 x.md,.string x.wt,.slice b x.ls.length c,.int .i64 x.cd,.string x.tx]] w fun e w'=>e=.returned (.bool true)/\Bw w w':=by
 have D:=U0 n;have C:=U0 m;clear n m;go_enter func89,ntmps89
 go_upto_region 1 with fail
 have i:=U0 (Oa (G6 w [vS x.nm,vI x.md,vS x.wt,vL d x.ls.length f,vI x.cd,vS x.tx] 115) (.cells #[vS x.nm,vI x.md,vS x.wt,vL b x.ls.length c,vI x.cd,vS x.tx] 115));have g:Hid (Cl ((w.alloc (.cells #[vS x.nm,vI x.md,vS x.wt,vL d x.ls.length f,vI x.cd,vS x.tx] 115)).alloc (.cells #[vS x.nm,vI x.md,vS x.wt,vL b x.ls.length c,vI x.cd,vS x.tx] 115)) (w.heap.size+1) 115 [vS x.nm,vI x.md,vS x.wt,vL b x.ls.length c,vI x.cd,vS x.tx]):=by show Cl _ _ _ _;have h:=G6 (w.alloc (.cells #[vS x.nm,vI x.md,vS x.wt,vL d x.ls.length f,vI x.cd,vS x.tx] 115)) [vS x.nm,vI x.md,vS x.wt,vL b x.ls.length c,vI x.cd,vS x.tx] 115;simpa using h
 have l:Hid (Bw w ((w.alloc (.cells #[vS x.nm,vI x.md,vS x.wt,vL d x.ls.length f,vI x.cd,vS x.tx] 115)).alloc (.cells #[vS x.nm,vI x.md,vS x.wt,vL b x.ls.length c,vI x.cd,vS x.tx] 115))):=o7.alloc I4 _;generalize (w.alloc (.cells #[vS x.nm,vI x.md,vS x.wt,vL d x.ls.length f,vI x.cd,vS x.tx] 115)).alloc (.cells #[vS x.nm,vI x.md,vS x.wt,vL b x.ls.length c,vI x.cd,vS x.tx] 115)=E at*;have A:=i.out.cell 0;have t:=g.out.cell 0;have z:=i.out.cell 1;have s:=g.out.cell 1;have a2:=i.out.cell 2;have r:=g.out.cell 2;have y:=i.out.cell 3;have q:=g.out.cell 3;simp only [@gz Value] at A t z s a2 r y q
 go_wp2_with fail
 clear A t z s a2 r y q;refine (a1a d b f c x.ls E hl (N7 D.out l.out) (N7 C.out l.out)).mono ?_;rintro e V1 ⟨rfl,a⟩;have B:=U0 (G7 l.out a);have k:=U0 (i.out.below a i.out.lt);have j:=U0 (g.out.below a g.out.lt);clear a i g l;have v:=k.out.cell 4;have p:=j.out.cell 4;have u:=k.out.cell 5;have o:=j.out.cell 5;simp only [@gz Value] at v p u o
 go_wp2_with fail
 clear v p u o;refine (c145 x.cd x.tx V1).mono ?_;rintro e V2 ⟨rfl,a⟩;have F:=U0 (G7 B.out a);have C2:=U0 (k.out.below a k.out.lt);have D2:=U0 (j.out.below a j.out.lt);clear a k j B;go_wp2;go_ret;exact ⟨rfl,F.out⟩
theorem c48 (a J:OA) (R Q:Nat) (is:List Rn) (w:World) (hl:is.length<=1048576) (r:∀ i,(is.getD i Aa).ls.length<=1048576) (E:Dj w a is) (D:Dj w J is):
 Calls prog 48 #[.slice a is.length R,.slice J is.length Q] w fun e w'=>e=.returned (.bool true)/\Bw w w':=by
 obtain ⟨b,off,hc⟩:=P_ E;have Y:=U0 hc;obtain ⟨b',q,v⟩:=P_ D;have X:=U0 v;have V:=U0 r;clear hc E v D r;go_enter func48,ntmps48
 go_wp2_with fail
 go_loopw [5] (fun i wr=>∃ (k:Nat),k<=is.length/\i=.int .i64 k/\Below w.heap.size w wr) (fun i _=>is.length - (intOf i).toNat)
 case atStart=>exact ⟨0,D5 _,rfl,Z4 _ _⟩
 case round=>
  obtain ⟨k,hk,rfl,c⟩:=hrel;by_cases d:k<is.length;rotate_left
  · go_wp2;go_ret;exact ⟨rfl,c⟩
  obtain ⟨ha,C,t⟩:=Nc Y.out d;obtain ⟨P,A,s⟩:=Nc X.out d;subst ha;subst P;have hd:Bw wr wr.drew:=(Z4 _ _).drew;have z:=m_ C c.size;have y:=m_ A c.size;obtain ⟨n,l,I,H⟩:=((t k d).below C c).below z hd;obtain ⟨m,h,p,o⟩:=((s k d).below A c).below y hd;have O:=V.out k;generalize is.getD k Aa=x at*;have Z:=U0 H;have U:=U0 o;have N:=U0 I;have L:=U0 p;have W:=U0 (G7 c hd);clear t s H o I p hd
  go_wp2_with fail
  refine wp_region_held_drew (S:=fun u=>Bc u b (off+k*6) (Ht (x,vL n x.ls.length l))/\Bc u b' (q+k*6) (Ht (x,vL m x.ls.length h))) J3 ⟨N.out,L.out⟩ fun hH=>?_;refine tq 0 hH ?_;refine tq 1 hH ?_;refine Y0 2 ?_;refine tq 3 hH ?_ (hv:=fun u f=>Y8 115 _ rfl (B:=b) (j:=off+k*6) (cs:=Ht (x,vL n x.ls.length l)) rfl f.1 underlying115 rfl J3);refine tq 4 hH ?_;refine tq 5 hH ?_;refine Y0 6 ?_;refine tq 7 hH ?_ (hv:=fun u f=>Y8 115 _ rfl (B:=b') (j:=q+k*6) (cs:=Ht (x,vL m x.ls.length h)) rfl f.2 underlying115 rfl J3)
  try simp only [qq]
  refine rq 8 fun K F=>?_;go_simp;refine (c89 x n m l h wr.drew O Z.out U.out).mono ?_;rintro e w1 ⟨rfl,g⟩
  go_wp2_with fail
  refine J8 F ⟨N.out.below z g,L.out.below y g⟩ fun hH=>?_;clear F K;refine Y0 9 ?_;refine wdn ?_;go_wp2;go_roundw
  case rel=>exact ⟨k+1,O0,by go_num,G7 W.out g⟩
  case measure=>simp [intOf];omega
def yG (s:BY):Prop:=s=⟨#[]⟩\/o6 s.data.toList=true
def Ig (r:Rn):Prop:=jg r.ls/\(((r.md=0\/r.md=1)/\(r.cd=0/\r.tx=⟨#[]⟩)/\yG r.wt)\/(r.md=2/\vr r.cd r.tx.data.toList=true/\r.wt=⟨#[]⟩))
theorem uf {s:BY} (h:¬ s=⟨#[]⟩):(s.toList==([]:List UInt8))=false:=n_.2 (fun e=>h (by
 apply qg;rw [ByteArray.toList_eq] at e;exact Rl.1 e))
theorem c141 (x:Rn) (c:OA) (b:Nat) (w:World):
 Calls prog 141 #[.agg #[.string x.nm,.int .i64 x.md,.string x.wt,.slice c x.ls.length b,.int .i64 x.cd,.string x.tx]] w fun e w'=>Rb (x.md=1/\x.wt=⟨#[]⟩) e/\Bw w w':=by
 go_enter func141,ntmps141
 go_upto_region 1 with fail
 have g:=U0 (G6 w [vS x.nm,vI x.md,vS x.wt,vL c x.ls.length b,vI x.cd,vS x.tx] 115);have d:=U0 (o7 (w:=w) (o:=.cells #[vS x.nm,vI x.md,vS x.wt,vL c x.ls.length b,vI x.cd,vS x.tx] 115));generalize w.alloc (.cells #[vS x.nm,vI x.md,vS x.wt,vL c x.ls.length b,vI x.cd,vS x.tx] 115)=V at*;have f:=g.out.cell 1;have a2:=g.out.cell 2;simp only [@gz Value] at f a2;by_cases h1:x.md=1;rotate_left
 · have a:Hid (¬ (x.md=1/\x.wt=⟨#[]⟩)):=fun h=>h1 h.1;go_wp2;go_ret;exact ⟨G5 a.out,d.out⟩
 rw [h1] at f;by_cases h2:x.wt=⟨#[]⟩
 · have i:Hid (x.md=1/\x.wt=⟨#[]⟩):=⟨h1,h2⟩;rw [h2] at a2;go_wp2;go_ret;exact ⟨C_ i.out,d.out⟩
 have a:Hid (¬ (x.md=1/\x.wt=⟨#[]⟩)):=fun h=>h2 h.2;have z:=uf h2;go_wp2;go_ret;exact ⟨by first | exact G5 a.out | (rw [z];exact G5 a.out) | (simp only [z];exact G5 a.out),d.out⟩
theorem c80 (x:Rn) (f:OA) (g:Nat) (w:World) (y:x.le 1048576) (A:I9 w f x.ls):
 Calls prog 80 #[.agg #[.string x.nm,.int .i64 x.md,.string x.wt,.slice f x.ls.length g,.int .i64 x.cd,.string x.tx]] w fun e w'=>Rb (Ig x) e/\Bw w w':=by
 have I:=U0 A;have l:=U0 y;clear A y;go_enter func80,ntmps80
 go_upto_region 1 with fail
 have m:=U0 (G6 w [vS x.nm,vI x.md,vS x.wt,vL f x.ls.length g,vI x.cd,vS x.tx] 115);have u:=U0 (o7 (w:=w) (o:=.cells #[vS x.nm,vI x.md,vS x.wt,vL f x.ls.length g,vI x.cd,vS x.tx] 115));generalize w.alloc (.cells #[vS x.nm,vI x.md,vS x.wt,vL f x.ls.length g,vI x.cd,vS x.tx] 115)=V at*;have B:=m.out.cell 3;simp only [@gz Value] at B
 go_wp2_with fail
 refine (c131 f g x.ls V l.out.2.2.1.1 l.out.2.2.1.2 (N7 I.out u.out)).mono ?_;rintro e v ⟨⟨F,rfl,i⟩,p⟩;have d:=U0 (m.out.below p m.out.lt);have b:=U0 (G7 u.out p);clear p B m u;have c:=d.out.cell 1;have a2:=d.out.cell 2;have j:=d.out.cell 4;have q:=d.out.cell 5;simp only [@gz Value] at c a2 j q
 cases F with
 | false=>
  have a:Hid (¬ Ig x):=fun h=>by have:=i.2 h.1;cases this
  clear i;go_wp2;go_ret;exact ⟨G5 a.out,b.out⟩
 | true=>
 have s:=U0 (i.1 rfl);clear i;by_cases hm:x.md=0\/x.md=1
 · by_cases hc:x.cd=0;rotate_left
   · have a:Hid (¬ Ig x):=fun h=>by
      rcases h.2 with ⟨_,k,_⟩ | ⟨k,_⟩
      · exact hc k.1
      rw [k] at hm;omega
     rcases hm with hm | hm
     all_goals
      rw [hm] at c;go_wp2;go_ret;exact ⟨G5 a.out,b.out⟩
   by_cases ht:x.tx=⟨#[]⟩;rotate_left
   · have a:Hid (¬ Ig x):=fun h=>by
      rcases h.2 with ⟨_,k,_⟩ | ⟨k,_⟩
      · exact ht k.2
      rw [k] at hm;omega
     have z:=uf ht;have z1:¬ x.tx.toList=[]:=n_.1 z;rw [hc] at j;rcases hm with hm | hm
     all_goals
      rw [hm] at c;go_wp2;go_ret;exact ⟨G5 a.out,b.out⟩
   rw [hc] at j;rw [ht] at q;by_cases hw:x.wt=⟨#[]⟩
   · have r:Hid (Ig x):=⟨s.out,.inl ⟨hm,⟨hc,ht⟩,.inl hw⟩⟩;rw [hw] at a2;rcases hm with hm | hm
     all_goals
      rw [hm] at c;go_wp2;go_ret;exact ⟨C_ r.out,b.out⟩
   have z:=uf hw;have H:Hid (o6 x.wt.data.toList=true↔Ig x):=⟨fun h=>⟨s.out,.inl ⟨hm,⟨hc,ht⟩,.inr h⟩⟩,fun h=>by
    rcases h.2 with ⟨_,_,k⟩ | ⟨k,_⟩
    · exact k.resolve_left hw
    rw [k] at hm;omega⟩
   rcases hm with hm | hm
   all_goals
    rw [hm] at c
    go_wp2_with fail
    refine (QN x.wt v (by have:=l.out.2.1;omega)).mono ?_;rintro e D ⟨rfl,E⟩;obtain rfl:=E.symm;go_wp2;go_ret;exact ⟨⟨_,rfl,H.out⟩,b.out⟩
 by_cases h2:x.md=2;rotate_left
 · have a:Hid (¬ Ig x):=fun h=>by
    rcases h.2 with ⟨k,_⟩ | ⟨k,_⟩
    · exact hm k
    exact h2 k
   have m0:¬ x.md=0:=fun h=>hm (.inl h);have m1:¬ x.md=1:=fun h=>hm (.inr h);go_wp2;go_ret;exact ⟨G5 a.out,b.out⟩
 rw [h2] at c;have C:=U0 (JM x.cd x.tx v (by have:=l.out.2.2.2;omega))
 go_wp2_with fail
 refine C.out.mono ?_;rintro e D ⟨rfl,n⟩;have J:=U0 (d.out.below n d.out.lt);have t:=U0 (G7 b.out n);clear n C c a2 j q d b;have a2:=J.out.cell 2;simp only [@gz Value] at a2;by_cases hv:vr x.cd x.tx.data.toList=true;rotate_left
 · have a:Hid (¬ Ig x):=fun h=>by
    rcases h.2 with ⟨k,_⟩ | ⟨_,k,_⟩
    · exact hm k
    exact hv k
   rw [Uh.2 hv];go_wp2;go_ret;exact ⟨G5 a.out,t.out⟩
 rw [hv];by_cases hw:x.wt=⟨#[]⟩
 · have r:Hid (Ig x):=⟨s.out,.inr ⟨h2,hv,hw⟩⟩;rw [hw] at a2;go_wp2;go_ret;exact ⟨C_ r.out,t.out⟩
 have z:=uf hw;have a:Hid (¬ Ig x):=fun h=>by
  rcases h.2 with ⟨k,_⟩ | ⟨_,_,k⟩
  · exact hm k
  exact hw k
 go_wp2;go_ret;exact ⟨by first | exact G5 a.out | (rw [z];exact G5 a.out) | (simp only [z];exact G5 a.out),t.out⟩
