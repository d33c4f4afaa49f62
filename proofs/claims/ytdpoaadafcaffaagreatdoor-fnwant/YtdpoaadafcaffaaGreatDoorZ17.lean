import Derived.Test.YtdpoaadafcaffaaGreatDoorZ15
set_option linter.unusedVariables false
set_option maxHeartbeats 8000000
set_option maxRecDepth 100000
namespace Go.Proofs.YtdpoaadafcaffaaGreatDoor
open Proofs.Tryz
open Go.RowKit
variable {X b base k n q size:Nat} {w w' w1 wq:World} {v:Value} {S l rest t:List UInt8} {e:TypeId} {xs:List Value} {o to:Int} {is:List I3} {tx:ByteArray}
structure But (b:Nat) (w w':World):Prop where
 os:w'.os=w.os
 tape:w'.tape=w.tape
 output:w'.output=w.output
 size:w.heap.size<=w'.heap.size
 block:∀ k,k<w.heap.size->k≠b->w'.heap[k]?=w.heap[k]?
theorem But.refl (b:Nat) (w:World):But b w w:=⟨rfl,rfl,rfl,Nat.le_refl _,fun _ _ _=>rfl⟩
theorem But.trans {u v:World} (h:But b u v) (k:But b v w):But b u w:=
 ⟨k.os.trans h.os,k.tape.trans h.tape,k.output.trans h.output,Nat.le_trans h.size k.size,fun i hi hne=>(k.block i (Nat.lt_of_lt_of_le hi h.size) hne).trans (h.block i hi hne)⟩
theorem But.of_below (h:Below w.heap.size w w'):But b w w':=⟨h.os,h.tape,h.output,h.size,fun k hk _=>h.block k hk⟩
theorem But.below {B:Nat} (h:But b w w') (hB:B<=b) (hz:B<=w.heap.size):Below B w w':=⟨h.os,h.tape,h.output,h.size,fun k hk=>h.block k O0 O0⟩
theorem But.setCell (h:But b w w') (j:Nat) (v:Value):But b w (w'.setCell ⟨b,j,none⟩ v):=by
 have k:=(Below.refl b w').setCell (p:=⟨b,j,none⟩) Q8 v;refine ⟨k.os.trans h.os,k.tape.trans h.tape,k.output.trans h.output,Nat.le_trans h.size k.size,fun i hi hne=>?_⟩;rw [<- h.block i hi hne];exact Below.heap_setCell _ _ _ _ hne
theorem But.cell (h:But b w w') {p:Addr} (hp:p.block<w.heap.size) (hne:p.block≠b):w'.cell? p=w.cell? p:=by
 unfold World.cell?;rw [h.block p.block hp hne]
theorem qE:∀ n:Fin 16,hx (H_.getD n.val 0)=(n.val:Int):=J3
theorem iq (n:Nat) (h:n<16):hx (H_.getD n 0)=n:=qE ⟨n,h⟩
theorem si (b:UInt8):-1<=hx b/\hx b<=15:=by
 unfold hx
 (repeat' split) <;> omega
def Il (S t:List UInt8) (k:Nat):Prop:=∀ l,S=J4 l->∃ r,l=t++r/\S.drop k=r.flatMap qb++[34]
theorem Ox (S:List UInt8):Il S [] 1:=fun l h=>⟨l,rfl,by rw [h];rfl⟩
theorem eD (h:Il S t k) (hk:S.length<=k+1) (l:List UInt8) (e:S=J4 l):t=l:=by
 obtain ⟨r,h1,h2⟩:=h l e
 cases r with
 | nil=>simpa using h1.symm
 | cons c r=>
  have hq:1<=(qb c).length:=List.length_pos_iff.2 (Bv c);have:=congrArg List.length h2;simp only [List.length_drop,List.flatMap_cons,List.length_append,List.length_cons,List.length_nil] at this;omega
theorem fH {a b:UInt8} (h:Il S t k) (hd:S.drop k=92::a::b::rest):Il S (t++[UInt8.ofNat (16*hx a+hx b).toNat]) (k+3):=by
 intro l e;obtain ⟨r,h1,h2⟩:=h l e
 cases r with
 | nil=>rw [hd] at h2;simp at h2
 | cons c r=>
  rw [hd,List.flatMap_cons] at h2;cases hc:A8 c
  · rw [Ga hc] at h2
    simp only [List.cons_append,List.nil_append,List.cons.injEq,true_and] at h2;obtain ⟨ha,hb,hr⟩:=h2;have lc:=Ri c;have e1:hx a=(c.toNat / 16:Nat):=by rw [ha];exact iq _ O0
    have e2:hx b=(c.toNat % 16:Nat):=by rw [hb];exact iq _ O0
    have e3:UInt8.ofNat (16*hx a+hx b).toNat=c:=by
     rw [e1,e2];apply UInt8.toNat_inj.1;have:(16*((c.toNat / 16:Nat):Int)+((c.toNat % 16:Nat):Int)).toNat=c.toNat:=O0;rw [this];simp
    refine ⟨r,by rw [h1,e3];simp,?_⟩;rw [<- List.drop_drop,hd];exact hr
  rw [X_ hc] at h2;simp only [List.cons_append,List.nil_append,List.cons.injEq] at h2;rw [<- h2.1,Km] at hc;cases hc
theorem Sv {x:UInt8} (h:Il S t k) (hd:S.drop k=x::rest) (hr0:rest≠[])
 (hn:∀ a b c q,x=92->rest=a::b::c::q->hx a<0\/hx b<0):Il S (t++[x]) (k+1):=by
 intro l e;obtain ⟨r,h1,h2⟩:=h l e
 cases r with
 | nil=>rw [hd] at h2;simp at h2;exact absurd h2.2 hr0
 | cons c r=>
  rw [hd,List.flatMap_cons] at h2;cases hc:A8 c
  · rw [Ga hc] at h2
    simp only [List.cons_append,List.nil_append,List.cons.injEq] at h2;obtain ⟨hx0,hr⟩:=h2;exfalso;have lc:=Ri c;have e1:=iq (c.toNat / 16) O0;have e2:=iq (c.toNat % 16) O0;rcases hq:r.flatMap qb++[34] with _ | ⟨d,q⟩
    · simp at hq
    rw [hq] at hr;rcases hn _ _ _ _ hx0 hr with h | h <;> omega
  rw [X_ hc] at h2;simp only [List.cons_append,List.nil_append,List.cons.injEq] at h2;refine ⟨r,by rw [h1,h2.1];simp,?_⟩;rw [<- List.drop_drop,hd];exact h2.2
theorem FB (s:ByteArray) (k:Nat) (h:k<s.size):s.data.toList.drop k=s[k]::s.data.toList.drop (k+1):=by
 rw [List.drop_eq_getElem_cons (by simpa using h)];rfl
theorem BD (a b:UInt8) (h1:0<=hx a) (h2:0<=hx b):((UInt8.ofNat (16*hx a+hx b).toNat).toNat:Int)=16*hx a+hx b:=by
 have:=si a;have:=si b;simp;omega
theorem ZG {g cp:Nat} (h:w.ownsRow base 5 1 (.slice (some ⟨g,0,none⟩) l.length cp) l.length (Lib.byteCells l)):(convert 22 9 (.slice (some ⟨g,0,none⟩) l.length cp)).run prog w=.ok (.string (K3 l)) w:=by
 have:=run_convert_bytes_arg (P:=prog) w 22 5 underlying22 underlying5 g 0 l.length cp (l.map fun b=>(b.toNat:Int)) U0 (fun i hi=>by
  rw [Nat.zero_add,h.cellAt i O0];simp [Lib.byteCells,hi]) 9 underlying9
 rw [this];have e:l.map ((fun n:Int=>UInt8.ofNat n.toNat)∘fun b=>(b.toNat:Int))=l:=(List.map_congr_left (fun b _=>U0)).trans (List.map_id l);simp only [strOfNums,List.map_map,e];rfl
theorem kg (h:w.ownsRow base e size v n xs) (hn:0<n):∃ g cp,v=.slice (some ⟨g,0,none⟩) n cp:=by
 rcases h.2 with ⟨_,h0⟩ | ⟨g,cap,cur,hv,_⟩
 · omega
 exact ⟨g,cap,hv⟩
theorem jH (s:ByteArray) (w:World) (hs:s.size<=1048700):
 Calls prog 122 #[.string s] w fun e w'=>(∃ t,e=.returned (.string (K3 t))/\t.length<=s.size+1/\∀ l,s.data.toList=J4 l->t=l)/\Below w.heap.size w w':=by
 obtain ⟨i0,hi,hz0,hz1,hz2⟩:=info_parts info5;go_enter func122,ntmps122
 go_wp2_with fail
 go_loopw [3,4] (fun v i wr=>∃ (k:Nat) (t:List UInt8),1<=k/\k<=s.size+1/\i=.int .i64 k/\t.length<=k/\wr.ownsRow w.heap.size 5 1 v t.length (Lib.byteCells t)/\Hid (∃ g cp,v=.slice (some ⟨g,0,none⟩) t.length cp)/\Hid (Il s.data.toList t k)/\Below w.heap.size w wr/\w.heap.size+1<=wr.heap.size) (fun _ i _=>s.size+1 - (intOf i).toNat)
 case atStart=>exact ⟨1,[],O0,O0,rfl,U0,World.ownsRow_lit _ #[] 0 Q8 (Nat.zero_le _) rfl,⟨_,_,rfl⟩,Ox _,bA,U0⟩
 obtain ⟨k,t,hk1,hk2,rfl,htk,hown,hfm,hun,hb,hz⟩:=hrel;by_cases hlt:k+1<s.size;rotate_left
 · have HE:=Q0 (eD hun.out X3)
   have HL:Hid (t.length<=s.size+1):=by show t.length<=s.size+1;omega
   obtain ⟨g,cp,hv⟩:=hfm.out;subst hv;have hcv:=ZG hown;go_wp2;go_ret;exact ⟨⟨t,rfl,HL.out,HE.out⟩,hb⟩
 have hlk:k<s.size:=O0;have D0:=Q0 (FB s k hlk);have D1:=Q0 (FB s (k+1) hlt);by_cases uP:s[k]=92;rotate_left
 · have e92:((s[k].toNat:Int)==92)=false:=by
    simp only [beq_eq_false_iff_ne];intro e;exact uP (UInt8.toNat_inj.1 (by have:s[k].toNat=92:=O0;rw [this];rfl))
   have HN:=Q0 (Sv hun.out (by rw [D0.out]) (by rw [D1.out];simp) (fun a b c q h _=>absurd h uP));clear uP
   go_wp2_with (first | (go_at_call 152;refine (c152 _ _).mono ?_;rintro e w1 ⟨rfl,hw1⟩;obtain rfl:=hw1.symm) | (at_builtin;refine wpList_append_own _ rfl _ _ 22 rfl w.heap.size 5 i0 (.int .u8 0) 1 1 underlying22 hi hz0 hz1 hz2 rfl J3 _ _ _ rfl (hown.alloc _) ⟨wr.heap.size,0,none⟩ 1 1 [_] rfl rfl (cell_one_new _ _ _) (by intro u hu;simp at hu;subst hu;rfl) (by unfold maxLen;omega) O0 X3 ?_;intro v' w2 hown' hgrow _))
   go_roundw
   case rel=>
    have hB2:=(hb.alloc hb.size _).grown hgrow X3 (fun j hj=>(hown.lt j hj).1);have ho2:w2.ownsRow w.heap.size 5 1 v' (t++[s[k]]).length (Lib.byteCells (t++[s[k]])):=by rw [J9,List.length_append];exact hown'
    exact ⟨k+1,t++[s[k]],O0,O0,by go_num,X3,ho2,kg ho2 U0,HN,hB2,by have:=hgrow.size;simp at this;omega⟩
   case measure=>simp [intOf];omega
 have e92:((s[k].toNat:Int)==92)=true:=by rw [uP];rfl
 by_cases h3:k+3<s.size;rotate_left
 · have HN:=Q0 (Sv hun.out (by rw [D0.out]) (by rw [D1.out];simp) (fun a b c q _ h=>by have hh:=congrArg List.length h;simp at hh;omega))
   clear uP
   go_wp2_with (first | (go_at_call 152;refine (c152 _ _).mono ?_;rintro e w1 ⟨rfl,hw1⟩;obtain rfl:=hw1.symm) | (at_builtin;refine wpList_append_own _ rfl _ _ 22 rfl w.heap.size 5 i0 (.int .u8 0) 1 1 underlying22 hi hz0 hz1 hz2 rfl J3 _ _ _ rfl (hown.alloc _) ⟨wr.heap.size,0,none⟩ 1 1 [_] rfl rfl (cell_one_new _ _ _) (by intro u hu;simp at hu;subst hu;rfl) (by unfold maxLen;omega) O0 X3 ?_;intro v' w2 hown' hgrow _))
   go_roundw
   case rel=>
    have hB2:=(hb.alloc hb.size _).grown hgrow X3 (fun j hj=>(hown.lt j hj).1);have ho2:w2.ownsRow w.heap.size 5 1 v' (t++[s[k]]).length (Lib.byteCells (t++[s[k]])):=by rw [J9,List.length_append];exact hown'
    exact ⟨k+1,t++[s[k]],O0,O0,by go_num,X3,ho2,kg ho2 U0,HN,hB2,by have:=hgrow.size;simp at this;omega⟩
   case measure=>simp [intOf];omega
 have hlk2:k+2<s.size:=O0;have D2:=Q0 (FB s (k+2) hlk2);have r1:=si s[k+1];have r2:=si s[k+2];by_cases q1:0<=hx s[k+1];rotate_left
 · have HN:=Q0 (Sv hun.out (by rw [D0.out]) (by rw [D1.out];simp) (fun a b c q _ h=>.inl (by rw [D1.out] at h;injection h with h _;rw [<- h];omega)))
   clear uP
   go_wp2_with (first | (go_at_call 152;refine (c152 _ _).mono ?_;rintro e w1 ⟨rfl,hw1⟩;obtain rfl:=hw1.symm) | (at_builtin;refine wpList_append_own _ rfl _ _ 22 rfl w.heap.size 5 i0 (.int .u8 0) 1 1 underlying22 hi hz0 hz1 hz2 rfl J3 _ _ _ rfl (hown.alloc _) ⟨wr.heap.size,0,none⟩ 1 1 [_] rfl rfl (cell_one_new _ _ _) (by intro u hu;simp at hu;subst hu;rfl) (by unfold maxLen;omega) O0 X3 ?_;intro v' w2 hown' hgrow _))
   go_roundw
   case rel=>
    have hB2:=(hb.alloc hb.size _).grown hgrow X3 (fun j hj=>(hown.lt j hj).1);have ho2:w2.ownsRow w.heap.size 5 1 v' (t++[s[k]]).length (Lib.byteCells (t++[s[k]])):=by rw [J9,List.length_append];exact hown'
    exact ⟨k+1,t++[s[k]],O0,O0,by go_num,X3,ho2,kg ho2 U0,HN,hB2,by have:=hgrow.size;simp at this;omega⟩
   case measure=>simp [intOf];omega
 by_cases q2:0<=hx s[k+2];rotate_left
 · have HN:=Q0 (Sv hun.out (by rw [D0.out]) (by rw [D1.out];simp) (fun a b c q _ h=>.inr (by rw [D1.out,D2.out] at h;injection h with _ h;injection h with h _;rw [<- h];omega)))
   clear uP
   go_wp2_with (first | (go_at_call 152;refine (c152 _ _).mono ?_;rintro e w1 ⟨rfl,hw1⟩;obtain rfl:=hw1.symm) | (at_builtin;refine wpList_append_own _ rfl _ _ 22 rfl w.heap.size 5 i0 (.int .u8 0) 1 1 underlying22 hi hz0 hz1 hz2 rfl J3 _ _ _ rfl (hown.alloc _) ⟨wr.heap.size,0,none⟩ 1 1 [_] rfl rfl (cell_one_new _ _ _) (by intro u hu;simp at hu;subst hu;rfl) (by unfold maxLen;omega) O0 X3 ?_;intro v' w2 hown' hgrow _))
   go_roundw
   case rel=>
    have hB2:=(hb.alloc hb.size _).grown hgrow X3 (fun j hj=>(hown.lt j hj).1);have ho2:w2.ownsRow w.heap.size 5 1 v' (t++[s[k]]).length (Lib.byteCells (t++[s[k]])):=by rw [J9,List.length_append];exact hown'
    exact ⟨k+1,t++[s[k]],O0,O0,by go_num,X3,ho2,kg ho2 U0,HN,hB2,by have:=hgrow.size;simp at this;omega⟩
   case measure=>simp [intOf];omega
 have HN:=Q0 (fH hun.out (by rw [D0.out,D1.out,D2.out,uP]));have HB:=Q0 (BD _ _ q1 q2);clear uP
 go_wp2_with (go_at_call 152;refine (c152 _ _).mono ?_;rintro e w1 ⟨rfl,hw1⟩;obtain rfl:=hw1.symm)
 have wk1:IntKind.i64.wrap ((k:Int)+1)=((k+1:Nat):Int):=by simp [IntKind.wrap,IntKind.signed,IntKind.bits];omega
 have wk2:IntKind.i64.wrap ((k:Int)+2)=((k+2:Nat):Int):=by simp [IntKind.wrap,IntKind.signed,IntKind.bits];omega
 have wm:IntKind.i64.wrap (16*hx s[k+1])=16*hx s[k+1]:=by simp [IntKind.wrap,IntKind.signed,IntKind.bits];omega
 have wa:IntKind.i64.wrap (16*hx s[k+1]+hx s[k+2])=16*hx s[k+1]+hx s[k+2]:=by simp [IntKind.wrap,IntKind.signed,IntKind.bits];omega
 have wu:IntKind.u8.wrap (16*hx s[k+1]+hx s[k+2])=16*hx s[k+1]+hx s[k+2]:=by simp [IntKind.wrap,IntKind.signed,IntKind.bits];omega
 have WA:Hid (IntKind.u8.wrap (IntKind.i64.wrap (16*hx s[k+1]+hx s[k+2]))=16*hx s[k+1]+hx s[k+2]):=by rw [wa,wu];rfl
 have hc1:((k+1:Nat):Int)<(s.size:Int):=O0;have hc2:((k+2:Nat):Int)<(s.size:Int):=O0
 go_region_law (first | (refine Kh rfl (.tmp 40) (.tmp 54) 22 rfl w.heap.size 5 i0 (.int .u8 0) 1 1 underlying22 hi hz0 hz1 hz2 rfl J3 _ _ _ rfl ((hown.drew).alloc _) ⟨wr.heap.size,0,none⟩ 1 1 [_] rfl rfl (cell_one_new _ _ _) (by intro u hu;simp at hu;subst hu;rfl) (by unfold maxLen;omega) O0 X3 ?_;intro v' w2 hown' hgrow) | (go_simp;go_wp2_with (go_at_call 152;refine (c152 _ _).mono ?_;rintro e w1 ⟨rfl,hw1⟩;obtain rfl:=hw1.symm)))
 all_goals clear wk1 wk2 wm wa wu hc1 hc2
 all_goals go_wp2
 all_goals go_roundw
 all_goals (try (simp [intOf];omega;done))
 all_goals
  have hB2:=((hb.drew).alloc hb.size _).grown hgrow X3 (fun j hj=>(hown.lt j hj).1);have ho2:w2.ownsRow w.heap.size 5 1 v' (t++[UInt8.ofNat (16*hx s[k+1]+hx s[k+2]).toNat]).length (Lib.byteCells (t++[UInt8.ofNat (16*hx s[k+1]+hx s[k+2]).toNat])):=by
   rw [J9,List.length_append];rw [show Lib.byteCells [UInt8.ofNat (16*hx s[k+1]+hx s[k+2]).toNat]=[.int .u8 (16*hx s[k+1]+hx s[k+2])] from congrArg (fun z:Int=>[Value.int .u8 z]) HB.out];have hq:=hown';simp only [show ((k:Int)+2).toNat=k+2 by omega,WA.out] at hq;exact hq
  exact ⟨k+3,_,O0,O0,by go_num,X3,ho2,kg ho2 U0,HN,hB2,by have:=hgrow.size;simp at this;omega⟩
theorem Rj (js:List I3) (o:List (List UInt8)):(js.flatMap R7).foldl (cst 10) (o,[])=(o++js.map body,[]):=by
 induction js generalizing o with
 | nil=>simp
 | cons x r ih=>
  rw [List.flatMap_cons,List.foldl_append,R8,Yr _ _ (N_ x)];simp only [List.nil_append];rw [ih];simp
theorem Je (js:List I3):Z6 10 (js.flatMap R7)=js.map body++[[]]:=by
 unfold Z6 E5;rw [Rj];simp
def Wd (l:List UInt8) (x:I3):Prop:=∀ y,Aa y=true->l=body y->x=y
def Dy (l:List UInt8) (o:Int):Prop:=(o=0/\∀ p:Nat,1<=p->p<=11->word p≠U1 l)\/((1<=o/\o<=11)/\word o=U1 l)
theorem Yk {y:I3} (h:Dy l o) (hy:Aa y=true) (e:l=body y):o=y.op:=by
 rcases h with ⟨_,h⟩ | ⟨h1,h2⟩
 · exact absurd e (Yn h y hy)
 exact (Sd hy e h1 h2).symm
theorem Nq {b:ByteArray} (h:b.toList.isEmpty=true):(⟨#[]⟩:ByteArray)=b:=qm kJ h
theorem ny (h:Dy l o) (hO:Y6 o=false) (hX:N7 o=false):Wd l ⟨o,⟨#[]⟩,0⟩:=by
 intro y hy e;have ho:=Yk h hy e;obtain ⟨_,h2,h3,_⟩:=A9 hy;obtain ⟨op,tx,to⟩:=y;simp only at ho h2 h3;subst ho;simp only [hO,Bool.false_eq_true,false_or] at h2;simp only [hX,Bool.false_eq_true,false_or] at h3;rw [h2,Nq h3]
theorem Iy (h:Dy l o) (hO:Y6 o=true) (hX:N7 o=false):Wd l ⟨o,⟨#[]⟩,n29 (U1 (Z0 l))⟩:=by
 intro y hy e;have ho:=Yk h hy e;obtain ⟨_,h2,h3,h4,h5,_⟩:=A9 hy;have hr:Z0 l=Lib.decDigits y.to.toNat:=by
  rw [e];unfold body;rw [Qg,zh,<- ho,hO,hX];simp only [if_true,Bool.false_eq_true,if_false,List.append_nil];exact (K5 (n_ _).1).2
 rw [hr,(Fe (Ib _).1).1,Gr _ O0];obtain ⟨op,tx,to⟩:=y;simp only at ho h3 h4;subst ho;simp only [hX,Bool.false_eq_true,false_or] at h3;rw [Nq h3];simp only [I3.mk.injEq,true_and];omega
theorem Wx (h:Dy l o) (hO:Y6 o=false) (hX:N7 o=true) (ht:∀ q,Z0 l=J4 q->t=q):Wd l ⟨o,K3 t,0⟩:=by
 intro y hy e;have ho:=Yk h hy e;obtain ⟨_,h2,h3,h4,h5,_⟩:=A9 hy;have hr:Z0 l=J4 y.tx.data.toList:=by
  rw [e];unfold body;rw [Qg,zh,<- ho,hO,hX];simp only [if_true,Bool.false_eq_true,if_false,List.append_nil];exact (K5 (n_ _).1).2
 have:=ht _ hr;obtain ⟨op,tx,to⟩:=y;simp only at ho h2 this;subst ho;simp only [hO,Bool.false_eq_true,false_or] at h2;rw [h2,this,<- P9 rfl]
theorem Jw (h:Dy l o) (hO:Y6 o=true) (hX:N7 o=true) (ht:∀ q,Z0 (Z0 l)=J4 q->t=q):Wd l ⟨o,K3 t,n29 (U1 (Z0 l))⟩:=by
 intro y hy e;have ho:=Yk h hy e;obtain ⟨_,h2,h3,h4,h5,_⟩:=A9 hy;have hr:Z0 l=Lib.decDigits y.to.toNat++32::J4 y.tx.data.toList:=by
  rw [e];unfold body;rw [Qg,zh,<- ho,hO,hX];simp only [if_true,List.append_assoc,List.cons_append];exact (K5 (n_ _).1).2
 obtain ⟨s1,s2⟩:=K5 (r:=J4 y.tx.data.toList) (Ib y.to.toNat).1;rw [<- hr] at s1 s2;have:=ht _ s2;rw [s1,Gr _ O0,this,<- P9 rfl];obtain ⟨op,tx,to⟩:=y;simp only at ho h4;subst ho;simp only [I3.mk.injEq,true_and];omega
def lg (S:List UInt8) (is:List I3) (k:Nat):Prop:=∀ js:List I3,js.all Aa=true->js.flatMap R7=S->is=js.take k
theorem Zf (S:List UInt8):lg S [] 0:=fun _ _ _=>rfl
theorem Cb {x:I3} (h:lg S is k) (hk:k+1<(Z6 10 S).length) (hp:Wd ((Z6 10 S).getD k []) x):lg S (is++[x]) (k+1):=by
 intro js hj e;have h1:=h js hj e;have hc:=Je js;rw [e] at hc;rw [hc] at hk hp;simp only [List.length_append,List.length_map,List.length_cons,List.length_nil] at hk;have hkl:k<js.length:=O0;have hg:(js.map body++[[]]).getD k []=body js[k]:=by
  simp only [List.getD,List.getElem?_append_left (show k<(js.map body).length by simpa using hkl),List.getElem?_map,List.getElem?_eq_getElem hkl];rfl
 rw [hg] at hp;have hok:=(List.all_eq_true.1 hj) _ (List.getElem_mem hkl);rw [h1,hp js[k] hok rfl,<- List.take_succ_eq_append_getElem hkl]
theorem Oj (h:lg S is k) (hk:k+1=(Z6 10 S).length) (KL:S.length<=300):(S≠[]/\Bb is=S->p_ S is true)/\(¬ (S≠[]/\Bb is=S)->p_ S [] false):=by
 constructor
 · rintro ⟨h1,h2⟩
   unfold Bb at h2;by_cases hc:Yb is=true/\(is.flatMap R7).length<=300
   · rw [if_pos hc] at h2
     exact ⟨fun _=>⟨hc.1,h2,KL⟩,(fun h=>by cases h)⟩
   rw [if_neg hc] at h2;exact absurd h2.symm h1
 intro hn;refine ⟨(fun h=>by cases h),fun _=>⟨rfl,fun js hj e=>?_⟩⟩;exfalso;apply hn;obtain ⟨⟨hl1,hl2⟩,hall⟩:=Kb hj;have h1:=h js hall e;have hc:=Je js;rw [e] at hc;rw [hc] at hk;simp only [List.length_append,List.length_map,List.length_cons,List.length_nil] at hk;rw [List.take_of_length_le O0] at h1;subst h1;refine ⟨fun e0=>?_,?_⟩
 · rw [e0] at e
   have:=ug is;rw [e,List.length_nil] at this;omega
 unfold Bb;rw [if_pos ⟨hj,by rw [e];exact KL⟩,e]
structure Mid (X:Nat) (w1 wq:World) (o:Int) (tx:ByteArray) (to:Int):Prop where
 but:But X w1 wq
 blk:wq.heap[X]?=some (.cells #[.int .i64 o,.string tx,.int .i64 to] 121 (0,0))
theorem Mid.below {wp:World} (h:Mid X w1 wq o tx to) (hb:Below wq.heap.size wq wp):Mid X w1 wp o tx to:=
 ⟨h.but.trans (But.of_below hb),(hb.block X (F4 h.blk)).trans h.blk⟩
theorem Mid.set0 (h:Mid X w1 wq o tx to) (o':Int):Mid X w1 (wq.setCell ⟨X,0,none⟩ (.int .i64 o')) o' tx to:=
 ⟨h.but.setCell _ _,heap_setCell_same wq X 0 _ _ _ h.blk⟩
theorem Mid.set1 (h:Mid X w1 wq o tx to) (t':ByteArray):Mid X w1 (wq.setCell ⟨X,1,none⟩ (.string t')) o t' to:=
 ⟨h.but.setCell _ _,heap_setCell_same wq X 1 _ _ _ h.blk⟩
theorem Mid.set2 (h:Mid X w1 wq o tx to) (n':Int):Mid X w1 (wq.setCell ⟨X,2,none⟩ (.int .i64 n')) o tx n':=
 ⟨h.but.setCell _ _,heap_setCell_same wq X 2 _ _ _ h.blk⟩
theorem Mid.cells (h:Mid X w1 wq o tx to):
 (wq.cell? ⟨X,0,none⟩=some (.int .i64 o)/\wq.cell? ⟨X,1,none⟩=some (.string tx)/\wq.cell? ⟨X,2,none⟩=some (.int .i64 to))/\wq.frozen? ⟨X,0,none⟩=false/\wq.frozen? ⟨X,1,none⟩=false/\wq.frozen? ⟨X,2,none⟩=false:=by
 refine ⟨⟨?_,?_,?_⟩,Lib.frozen_of_heap h.blk 0,Lib.frozen_of_heap h.blk 1,Lib.frozen_of_heap h.blk 2⟩
 · rw [Lib.cell_of_heap h.blk];rfl
 · rw [Lib.cell_of_heap h.blk];rfl
 rw [Lib.cell_of_heap h.blk];rfl
theorem Li (h:w.ownsRow base e size v n xs) (hb:But b w w') (hne:v.ownBlock≠some b):w'.ownsRow base e size v n xs:=by
 refine ⟨h.1,?_⟩;rcases h.2 with h2 | ⟨g,cap,cur,hv,hg,hh,r⟩
 · exact .inl h2
 refine .inr ⟨g,cap,cur,hv,hg,?_,r⟩;rw [hb.block g (F4 hh) (fun e=>hne (by rw [hv,e];rfl))];exact hh
def Tw (l:List UInt8) (q:Nat) (o:Int):Prop:=(o=0/\∀ p:Nat,1<=p->p<q->word p≠U1 l)\/((1<=o/\o<q)/\word o=U1 l)
theorem Rz (_h:Tw l q o) (hq:1<=q) (hw:word q=U1 l):Tw l (q+1) q:=.inr ⟨O0,hw⟩
theorem MC (h:Tw l q o) (hw:word q≠U1 l):Tw l (q+1) o:=by
 rcases h with ⟨h1,h2⟩ | ⟨h1,h2⟩
 · refine .inl ⟨h1,fun p hp hq=>?_⟩
   by_cases e:p=q
   · subst e;exact hw
   exact h2 p hp O0
 exact .inr ⟨O0,h2⟩
theorem UA (h:Tw l 12 o):Dy l o:=by
 rcases h with ⟨h1,h2⟩ | ⟨h1,h2⟩
 · exact .inl ⟨h1,fun p hp hq=>h2 p hp O0⟩
 exact .inr ⟨O0,h2⟩
end Go.Proofs.YtdpoaadafcaffaaGreatDoor
