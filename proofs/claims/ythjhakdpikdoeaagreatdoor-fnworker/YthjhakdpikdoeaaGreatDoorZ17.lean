import Derived.Test.YthjhakdpikdoeaaGreatDoorZ15
set_option linter.unusedVariables false
set_option maxHeartbeats 8000000
set_option maxRecDepth 100000
namespace Go.Proofs.YthjhakdpikdoeaaGreatDoor
open Proofs.Tryz
open Go.RowKit
variable {X b base k n q size:Nat} {w w' w1 wq:World} {v:Value} {S l rest t:List UInt8} {e:TypeId} {xs:List Value} {o to:Int} {is:List I3} {tx:ByteArray}
structure But (b:Nat) (w w':World):Prop where
 os:w'.os=w.os
 tape:w'.tape=w.tape
 output:w'.output=w.output
 size:w.heap.size<=w'.heap.size
 block:∀ k,k<w.heap.size->k≠b->w'.heap[k]?=w.heap[k]?
theorem But.refl (b:Nat) (w:World):But b w w:=⟨rfl,rfl,rfl,Nat.le_refl _,fun _ _ _=>rfl⟩
theorem But.trans {u v:World} (h:But b u v) (k:But b v w):But b u w:=
 ⟨k.os.trans h.os,k.tape.trans h.tape,k.output.trans h.output,Nat.le_trans h.size k.size,fun i hi hne=>(k.block i (Nat.lt_of_lt_of_le hi h.size) hne).trans (h.block i hi hne)⟩
theorem But.of_below (h:Below w.heap.size w w'):But b w w':=⟨h.os,h.tape,h.output,h.size,fun k hk _=>h.block k hk⟩
theorem But.below {B:Nat} (h:But b w w') (hB:B<=b) (hz:B<=w.heap.size):Below B w w':=⟨h.os,h.tape,h.output,h.size,fun k hk=>h.block k om_ om_⟩
theorem But.setCell (h:But b w w') (j:Nat) (v:Value):But b w (w'.setCell ⟨b,j,none⟩ v):=by
 have k:=(Below.refl b w').setCell (p:=⟨b,j,none⟩) lr_ v;refine ⟨k.os.trans h.os,k.tape.trans h.tape,k.output.trans h.output,Nat.le_trans h.size k.size,fun i hi hne=>?_⟩;rw [<- h.block i hi hne];exact Below.heap_setCell _ _ _ _ hne
theorem But.cell (h:But b w w') {p:Addr} (hp:p.block<w.heap.size) (hne:p.block≠b):w'.cell? p=w.cell? p:=by
 unfold World.cell?;rw [h.block p.block hp hne]
theorem hx_hex0:∀ n:Fin 16,hx (hexL.getD n.val 0)=(n.val:Int):=dc_
theorem hx_hex (n:Nat) (h:n<16):hx (hexL.getD n 0)=n:=hx_hex0 ⟨n,h⟩
theorem hx_range (b:UInt8):-1<=hx b/\hx b<=15:=by
 unfold hx
 (repeat' split) <;> omega
def UnqTo (S t:List UInt8) (k:Nat):Prop:=∀ l,S=quoteL l->∃ r,l=t++r/\S.drop k=r.flatMap qb++[34]
theorem unq_start (S:List UInt8):UnqTo S [] 1:=fun l h=>⟨l,rfl,by rw [h];rfl⟩
theorem unq_end (h:UnqTo S t k) (hk:S.length<=k+1) (l:List UInt8) (e:S=quoteL l):t=l:=by
 obtain ⟨r,h1,h2⟩:=h l e
 cases r with
 | nil=>simpa using h1.symm
 | cons c r=>
  have hq:1<=(qb c).length:=List.length_pos_iff.2 (qb_ne c);have:=congrArg List.length h2;simp only [List.length_drop,List.flatMap_cons,List.length_append,List.length_cons,List.length_nil] at this;omega
theorem unq_A {a b:UInt8} (h:UnqTo S t k) (hd:S.drop k=92::a::b::rest):UnqTo S (t++[UInt8.ofNat (16*hx a+hx b).toNat]) (k+3):=by
 intro l e;obtain ⟨r,h1,h2⟩:=h l e
 cases r with
 | nil=>rw [hd] at h2;simp at h2
 | cons c r=>
  rw [hd,List.flatMap_cons] at h2;cases hc:plainB c
  · rw [qb_not hc] at h2
    simp only [List.cons_append,List.nil_append,List.cons.injEq,true_and] at h2;obtain ⟨ha,hb,hr⟩:=h2;have lc:=u8_lt c;have e1:hx a=(c.toNat / 16:Nat):=by rw [ha];exact hx_hex _ om_
    have e2:hx b=(c.toNat % 16:Nat):=by rw [hb];exact hx_hex _ om_
    have e3:UInt8.ofNat (16*hx a+hx b).toNat=c:=by
     rw [e1,e2];apply UInt8.toNat_inj.1;have:(16*((c.toNat / 16:Nat):Int)+((c.toNat % 16:Nat):Int)).toNat=c.toNat:=om_;rw [this];simp
    refine ⟨r,by rw [h1,e3];simp,?_⟩;rw [<- List.drop_drop,hd];exact hr
  rw [qb_plain hc] at h2;simp only [List.cons_append,List.nil_append,List.cons.injEq] at h2;rw [<- h2.1,plain_92] at hc;cases hc
theorem unq_B {x:UInt8} (h:UnqTo S t k) (hd:S.drop k=x::rest) (hr0:rest≠[])
 (hn:∀ a b c q,x=92->rest=a::b::c::q->hx a<0\/hx b<0):UnqTo S (t++[x]) (k+1):=by
 intro l e;obtain ⟨r,h1,h2⟩:=h l e
 cases r with
 | nil=>rw [hd] at h2;simp at h2;exact absurd h2.2 hr0
 | cons c r=>
  rw [hd,List.flatMap_cons] at h2;cases hc:plainB c
  · rw [qb_not hc] at h2
    simp only [List.cons_append,List.nil_append,List.cons.injEq] at h2;obtain ⟨hx0,hr⟩:=h2;exfalso;have lc:=u8_lt c;have e1:=hx_hex (c.toNat / 16) om_;have e2:=hx_hex (c.toNat % 16) om_;rcases hq:r.flatMap qb++[34] with _ | ⟨d,q⟩
    · simp at hq
    rw [hq] at hr;rcases hn _ _ _ _ hx0 hr with h | h <;> omega
  rw [qb_plain hc] at h2;simp only [List.cons_append,List.nil_append,List.cons.injEq] at h2;refine ⟨r,by rw [h1,h2.1];simp,?_⟩;rw [<- List.drop_drop,hd];exact h2.2
theorem dropE (s:ByteArray) (k:Nat) (h:k<s.size):s.data.toList.drop k=s[k]::s.data.toList.drop (k+1):=by
 rw [List.drop_eq_getElem_cons (by simpa using h)];rfl
theorem hx_byte (a b:UInt8) (h1:0<=hx a) (h2:0<=hx b):((UInt8.ofNat (16*hx a+hx b).toNat).toNat:Int)=16*hx a+hx b:=by
 have:=hx_range a;have:=hx_range b;simp;omega
theorem convE {g cp:Nat} (h:w.ownsRow base 5 1 (.slice (some ⟨g,0,none⟩) l.length cp) l.length (Lib.byteCells l)):(convert 22 9 (.slice (some ⟨g,0,none⟩) l.length cp)).run prog w=.ok (.string (ofL l)) w:=by
 have:=run_convert_bytes_arg (P:=prog) w 22 5 underlying22 underlying5 g 0 l.length cp (l.map fun b=>(b.toNat:Int)) sm_ (fun i hi=>by
  rw [Nat.zero_add,h.cellAt i om_];simp [Lib.byteCells,hi]) 9 underlying9
 rw [this];have e:l.map ((fun n:Int=>UInt8.ofNat n.toNat)∘fun b=>(b.toNat:Int))=l:=(List.map_congr_left (fun b _=>sm_)).trans (List.map_id l);simp only [strOfNums,List.map_map,e];rfl
theorem own_form (h:w.ownsRow base e size v n xs) (hn:0<n):∃ g cp,v=.slice (some ⟨g,0,none⟩) n cp:=by
 rcases h.2 with ⟨_,h0⟩ | ⟨g,cap,cur,hv,_⟩
 · omega
 exact ⟨g,cap,hv⟩
theorem c90 (s:ByteArray) (w:World) (hs:s.size<=1048700):
 Calls prog 90 #[.string s] w fun e w'=>(∃ t,e=.returned (.string (ofL t))/\t.length<=s.size+1/\∀ l,s.data.toList=quoteL l->t=l)/\Below w.heap.size w w':=by
 obtain ⟨i0,hi,hz0,hz1,hz2⟩:=info_parts info5;go_enter func90,ntmps90
 go_wp2_with fail
 go_loopw [3,4] (fun v i wr=>∃ (k:Nat) (t:List UInt8),1<=k/\k<=s.size+1/\i=.int .i64 k/\t.length<=k/\wr.ownsRow w.heap.size 5 1 v t.length (Lib.byteCells t)/\Hid (∃ g cp,v=.slice (some ⟨g,0,none⟩) t.length cp)/\Hid (UnqTo s.data.toList t k)/\Below w.heap.size w wr/\w.heap.size+1<=wr.heap.size) (fun _ i _=>s.size+1 - (intOf i).toNat)
 case atStart=>exact ⟨1,[],om_,om_,rfl,sm_,World.ownsRow_lit _ #[] 0 lr_ (Nat.zero_le _) rfl,⟨_,_,rfl⟩,unq_start _,bA,sm_⟩
 obtain ⟨k,t,hk1,hk2,rfl,htk,hown,hfm,hun,hb,hz⟩:=hrel;by_cases hlt:k+1<s.size;rotate_left
 · have HE:Hid (∀ l,s.data.toList=quoteL l->t=l):=unq_end hun.out so_
   have HL:Hid (t.length<=s.size+1):=by show t.length<=s.size+1;omega
   obtain ⟨g,cp,hv⟩:=hfm.out;subst hv;have hcv:=convE hown;go_wp2;go_ret;exact ⟨⟨t,rfl,HL.out,HE.out⟩,hb⟩
 have hlk:k<s.size:=om_;have D0:Hid (s.data.toList.drop k=s[k]::s.data.toList.drop (k+1)):=dropE s k hlk;have D1:Hid (s.data.toList.drop (k+1)=s[k+1]::s.data.toList.drop (k+1+1)):=dropE s (k+1) hlt;by_cases h92:s[k]=92;rotate_left
 · have e92:((s[k].toNat:Int)==92)=false:=by
    simp only [beq_eq_false_iff_ne];intro e;exact h92 (UInt8.toNat_inj.1 (by have:s[k].toNat=92:=om_;rw [this];rfl))
   have HN:Hid (UnqTo s.data.toList (t++[s[k]]) (k+1)):=unq_B hun.out (by rw [D0.out]) (by rw [D1.out];simp) (fun a b c q h _=>absurd h h92);clear h92
   go_wp2_with (first | (go_at_call 103;refine (c103 _ _).mono ?_;rintro e w1 ⟨rfl,hw1⟩;obtain rfl:=hw1.symm) | (at_builtin;refine wpList_append_own _ rfl _ _ 22 rfl w.heap.size 5 i0 (.int .u8 0) 1 1 underlying22 hi hz0 hz1 hz2 rfl dc_ _ _ _ rfl (hown.alloc _) ⟨wr.heap.size,0,none⟩ 1 1 [_] rfl rfl (cell_one_new _ _ _) (by intro u hu;simp at hu;subst hu;rfl) (by unfold maxLen;omega) om_ so_ ?_;intro v' w2 hown' hgrow _))
   go_roundw
   case rel=>
    have hB2:Below w.heap.size w w2:=(hb.alloc hb.size _).grown hgrow so_ (fun j hj=>(hown.lt j hj).1);have ho2:w2.ownsRow w.heap.size 5 1 v' (t++[s[k]]).length (Lib.byteCells (t++[s[k]])):=by rw [cells_snoc,List.length_append];exact hown'
    exact ⟨k+1,t++[s[k]],om_,om_,by go_num,so_,ho2,own_form ho2 sm_,HN,hB2,by have:=hgrow.size;simp at this;omega⟩
   case measure=>simp [intOf];omega
 have e92:((s[k].toNat:Int)==92)=true:=by rw [h92];rfl
 by_cases h3:k+3<s.size;rotate_left
 · have HN:Hid (UnqTo s.data.toList (t++[s[k]]) (k+1)):=unq_B hun.out (by rw [D0.out]) (by rw [D1.out];simp) (fun a b c q _ h=>by have hh:=congrArg List.length h;simp at hh;omega)
   clear h92
   go_wp2_with (first | (go_at_call 103;refine (c103 _ _).mono ?_;rintro e w1 ⟨rfl,hw1⟩;obtain rfl:=hw1.symm) | (at_builtin;refine wpList_append_own _ rfl _ _ 22 rfl w.heap.size 5 i0 (.int .u8 0) 1 1 underlying22 hi hz0 hz1 hz2 rfl dc_ _ _ _ rfl (hown.alloc _) ⟨wr.heap.size,0,none⟩ 1 1 [_] rfl rfl (cell_one_new _ _ _) (by intro u hu;simp at hu;subst hu;rfl) (by unfold maxLen;omega) om_ so_ ?_;intro v' w2 hown' hgrow _))
   go_roundw
   case rel=>
    have hB2:Below w.heap.size w w2:=(hb.alloc hb.size _).grown hgrow so_ (fun j hj=>(hown.lt j hj).1);have ho2:w2.ownsRow w.heap.size 5 1 v' (t++[s[k]]).length (Lib.byteCells (t++[s[k]])):=by rw [cells_snoc,List.length_append];exact hown'
    exact ⟨k+1,t++[s[k]],om_,om_,by go_num,so_,ho2,own_form ho2 sm_,HN,hB2,by have:=hgrow.size;simp at this;omega⟩
   case measure=>simp [intOf];omega
 have hlk2:k+2<s.size:=om_;have D2:Hid (s.data.toList.drop (k+1+1)=s[k+2]::s.data.toList.drop (k+3)):=dropE s (k+2) hlk2;have r1:=hx_range s[k+1];have r2:=hx_range s[k+2];by_cases q1:0<=hx s[k+1];rotate_left
 · have HN:Hid (UnqTo s.data.toList (t++[s[k]]) (k+1)):=unq_B hun.out (by rw [D0.out]) (by rw [D1.out];simp) (fun a b c q _ h=>.inl (by rw [D1.out] at h;injection h with h _;rw [<- h];omega))
   clear h92
   go_wp2_with (first | (go_at_call 103;refine (c103 _ _).mono ?_;rintro e w1 ⟨rfl,hw1⟩;obtain rfl:=hw1.symm) | (at_builtin;refine wpList_append_own _ rfl _ _ 22 rfl w.heap.size 5 i0 (.int .u8 0) 1 1 underlying22 hi hz0 hz1 hz2 rfl dc_ _ _ _ rfl (hown.alloc _) ⟨wr.heap.size,0,none⟩ 1 1 [_] rfl rfl (cell_one_new _ _ _) (by intro u hu;simp at hu;subst hu;rfl) (by unfold maxLen;omega) om_ so_ ?_;intro v' w2 hown' hgrow _))
   go_roundw
   case rel=>
    have hB2:Below w.heap.size w w2:=(hb.alloc hb.size _).grown hgrow so_ (fun j hj=>(hown.lt j hj).1);have ho2:w2.ownsRow w.heap.size 5 1 v' (t++[s[k]]).length (Lib.byteCells (t++[s[k]])):=by rw [cells_snoc,List.length_append];exact hown'
    exact ⟨k+1,t++[s[k]],om_,om_,by go_num,so_,ho2,own_form ho2 sm_,HN,hB2,by have:=hgrow.size;simp at this;omega⟩
   case measure=>simp [intOf];omega
 by_cases q2:0<=hx s[k+2];rotate_left
 · have HN:Hid (UnqTo s.data.toList (t++[s[k]]) (k+1)):=unq_B hun.out (by rw [D0.out]) (by rw [D1.out];simp) (fun a b c q _ h=>.inr (by rw [D1.out,D2.out] at h;injection h with _ h;injection h with h _;rw [<- h];omega))
   clear h92
   go_wp2_with (first | (go_at_call 103;refine (c103 _ _).mono ?_;rintro e w1 ⟨rfl,hw1⟩;obtain rfl:=hw1.symm) | (at_builtin;refine wpList_append_own _ rfl _ _ 22 rfl w.heap.size 5 i0 (.int .u8 0) 1 1 underlying22 hi hz0 hz1 hz2 rfl dc_ _ _ _ rfl (hown.alloc _) ⟨wr.heap.size,0,none⟩ 1 1 [_] rfl rfl (cell_one_new _ _ _) (by intro u hu;simp at hu;subst hu;rfl) (by unfold maxLen;omega) om_ so_ ?_;intro v' w2 hown' hgrow _))
   go_roundw
   case rel=>
    have hB2:Below w.heap.size w w2:=(hb.alloc hb.size _).grown hgrow so_ (fun j hj=>(hown.lt j hj).1);have ho2:w2.ownsRow w.heap.size 5 1 v' (t++[s[k]]).length (Lib.byteCells (t++[s[k]])):=by rw [cells_snoc,List.length_append];exact hown'
    exact ⟨k+1,t++[s[k]],om_,om_,by go_num,so_,ho2,own_form ho2 sm_,HN,hB2,by have:=hgrow.size;simp at this;omega⟩
   case measure=>simp [intOf];omega
 have HN:Hid (UnqTo s.data.toList (t++[UInt8.ofNat (16*hx s[k+1]+hx s[k+2]).toNat]) (k+3)):=unq_A hun.out (by rw [D0.out,D1.out,D2.out,h92]);have HB:Hid (((UInt8.ofNat (16*hx s[k+1]+hx s[k+2]).toNat).toNat:Int)=16*hx s[k+1]+hx s[k+2]):=hx_byte _ _ q1 q2;clear h92
 go_wp2_with (go_at_call 103;refine (c103 _ _).mono ?_;rintro e w1 ⟨rfl,hw1⟩;obtain rfl:=hw1.symm)
 have wk1:IntKind.i64.wrap ((k:Int)+1)=((k+1:Nat):Int):=by simp [IntKind.wrap,IntKind.signed,IntKind.bits];omega
 have wk2:IntKind.i64.wrap ((k:Int)+2)=((k+2:Nat):Int):=by simp [IntKind.wrap,IntKind.signed,IntKind.bits];omega
 have wm:IntKind.i64.wrap (16*hx s[k+1])=16*hx s[k+1]:=by simp [IntKind.wrap,IntKind.signed,IntKind.bits];omega
 have wa:IntKind.i64.wrap (16*hx s[k+1]+hx s[k+2])=16*hx s[k+1]+hx s[k+2]:=by simp [IntKind.wrap,IntKind.signed,IntKind.bits];omega
 have wu:IntKind.u8.wrap (16*hx s[k+1]+hx s[k+2])=16*hx s[k+1]+hx s[k+2]:=by simp [IntKind.wrap,IntKind.signed,IntKind.bits];omega
 have WA:Hid (IntKind.u8.wrap (IntKind.i64.wrap (16*hx s[k+1]+hx s[k+2]))=16*hx s[k+1]+hx s[k+2]):=by rw [wa,wu];rfl
 have hc1:((k+1:Nat):Int)<(s.size:Int):=om_;have hc2:((k+2:Nat):Int)<(s.size:Int):=om_
 go_region_law (first | (refine step_app rfl (.tmp 40) (.tmp 54) 22 rfl w.heap.size 5 i0 (.int .u8 0) 1 1 underlying22 hi hz0 hz1 hz2 rfl dc_ _ _ _ rfl ((hown.drew).alloc _) ⟨wr.heap.size,0,none⟩ 1 1 [_] rfl rfl (cell_one_new _ _ _) (by intro u hu;simp at hu;subst hu;rfl) (by unfold maxLen;omega) om_ so_ ?_;intro v' w2 hown' hgrow) | (go_simp;go_wp2_with (go_at_call 103;refine (c103 _ _).mono ?_;rintro e w1 ⟨rfl,hw1⟩;obtain rfl:=hw1.symm)))
 all_goals clear wk1 wk2 wm wa wu hc1 hc2
 all_goals go_wp2
 all_goals go_roundw
 all_goals (try (simp [intOf];omega;done))
 all_goals
  have hB2:Below w.heap.size w w2:=((hb.drew).alloc hb.size _).grown hgrow so_ (fun j hj=>(hown.lt j hj).1);have ho2:w2.ownsRow w.heap.size 5 1 v' (t++[UInt8.ofNat (16*hx s[k+1]+hx s[k+2]).toNat]).length (Lib.byteCells (t++[UInt8.ofNat (16*hx s[k+1]+hx s[k+2]).toNat])):=by
   rw [cells_snoc,List.length_append];rw [show Lib.byteCells [UInt8.ofNat (16*hx s[k+1]+hx s[k+2]).toNat]=[.int .u8 (16*hx s[k+1]+hx s[k+2])] from congrArg (fun z:Int=>[Value.int .u8 z]) HB.out];have hq:=hown';simp only [show ((k:Int)+2).toNat=k+2 by omega,WA.out] at hq;exact hq
  exact ⟨k+3,_,om_,om_,by go_num,so_,ho2,own_form ho2 sm_,HN,hB2,by have:=hgrow.size;simp at this;omega⟩
theorem cst_lines (js:List I3) (o:List (List UInt8)):(js.flatMap lineL).foldl (cst 10) (o,[])=(o++js.map body,[]):=by
 induction js generalizing o with
 | nil=>simp
 | cons x r ih=>
  rw [List.flatMap_cons,List.foldl_append,line_body,cst_line _ _ (body_no10 x)];simp only [List.nil_append];rw [ih];simp
theorem cut_lines (js:List I3):cutS 10 (js.flatMap lineL)=js.map body++[[]]:=by
 unfold cutS cstate;rw [cst_lines];simp
def Parsed (l:List UInt8) (x:I3):Prop:=∀ y,okI y=true->l=body y->x=y
def OpOf (l:List UInt8) (o:Int):Prop:=(o=0/\∀ p:Nat,1<=p->p<=11->word p≠wordOf l)\/((1<=o/\o<=11)/\word o=wordOf l)
theorem opOf_eq {y:I3} (h:OpOf l o) (hy:okI y=true) (e:l=body y):o=y.op:=by
 rcases h with ⟨_,h⟩ | ⟨h1,h2⟩
 · exact absurd e (noBody_op h y hy)
 exact (body_op hy e h1 h2).symm
theorem empty_tx {b:ByteArray} (h:b.toList.isEmpty=true):(⟨#[]⟩:ByteArray)=b:=tx_empty tx0 h
theorem parsed_00 (h:OpOf l o) (hO:usesTo o=false) (hX:usesTx o=false):Parsed l ⟨o,⟨#[]⟩,0⟩:=by
 intro y hy e;have ho:=opOf_eq h hy e;obtain ⟨_,h2,h3,_⟩:=okI_bad hy;obtain ⟨op,tx,to⟩:=y;simp only at ho h2 h3;subst ho;simp only [hO,Bool.false_eq_true,false_or] at h2;simp only [hX,Bool.false_eq_true,false_or] at h3;rw [h2,empty_tx h3]
theorem parsed_10 (h:OpOf l o) (hO:usesTo o=true) (hX:usesTx o=false):Parsed l ⟨o,⟨#[]⟩,n29 (wordOf (restOf l))⟩:=by
 intro y hy e;have ho:=opOf_eq h hy e;obtain ⟨_,h2,h3,h4,h5,_⟩:=okI_bad hy;have hr:restOf l=Lib.decDigits y.to.toNat:=by
  rw [e];unfold body;rw [toL,txL,<- ho,hO,hX];simp only [if_true,Bool.false_eq_true,if_false,List.append_nil];exact (word_split (word_no32 _).1).2
 rw [hr,(word_none (decD_no32 _).1).1,n29_dec0 _ om_];obtain ⟨op,tx,to⟩:=y;simp only at ho h3 h4;subst ho;simp only [hX,Bool.false_eq_true,false_or] at h3;rw [empty_tx h3];simp only [I3.mk.injEq,true_and];omega
theorem parsed_01 (h:OpOf l o) (hO:usesTo o=false) (hX:usesTx o=true) (ht:∀ q,restOf l=quoteL q->t=q):Parsed l ⟨o,ofL t,0⟩:=by
 intro y hy e;have ho:=opOf_eq h hy e;obtain ⟨_,h2,h3,h4,h5,_⟩:=okI_bad hy;have hr:restOf l=quoteL y.tx.data.toList:=by
  rw [e];unfold body;rw [toL,txL,<- ho,hO,hX];simp only [if_true,Bool.false_eq_true,if_false,List.append_nil];exact (word_split (word_no32 _).1).2
 have:=ht _ hr;obtain ⟨op,tx,to⟩:=y;simp only at ho h2 this;subst ho;simp only [hO,Bool.false_eq_true,false_or] at h2;rw [h2,this,<- ext_ofL rfl]
theorem parsed_11 (h:OpOf l o) (hO:usesTo o=true) (hX:usesTx o=true) (ht:∀ q,restOf (restOf l)=quoteL q->t=q):Parsed l ⟨o,ofL t,n29 (wordOf (restOf l))⟩:=by
 intro y hy e;have ho:=opOf_eq h hy e;obtain ⟨_,h2,h3,h4,h5,_⟩:=okI_bad hy;have hr:restOf l=Lib.decDigits y.to.toNat++32::quoteL y.tx.data.toList:=by
  rw [e];unfold body;rw [toL,txL,<- ho,hO,hX];simp only [if_true,List.append_assoc,List.cons_append];exact (word_split (word_no32 _).1).2
 obtain ⟨s1,s2⟩:=word_split (r:=quoteL y.tx.data.toList) (decD_no32 y.to.toNat).1;rw [<- hr] at s1 s2;have:=ht _ s2;rw [s1,n29_dec0 _ om_,this,<- ext_ofL rfl];obtain ⟨op,tx,to⟩:=y;simp only at ho h4;subst ho;simp only [I3.mk.injEq,true_and];omega
def Sofar (S:List UInt8) (is:List I3) (k:Nat):Prop:=∀ js:List I3,js.all okI=true->js.flatMap lineL=S->is=js.take k
theorem sofar_start (S:List UInt8):Sofar S [] 0:=fun _ _ _=>rfl
theorem sofar_step {x:I3} (h:Sofar S is k) (hk:k+1<(cutS 10 S).length) (hp:Parsed ((cutS 10 S).getD k []) x):Sofar S (is++[x]) (k+1):=by
 intro js hj e;have h1:=h js hj e;have hc:=cut_lines js;rw [e] at hc;rw [hc] at hk hp;simp only [List.length_append,List.length_map,List.length_cons,List.length_nil] at hk;have hkl:k<js.length:=om_;have hg:(js.map body++[[]]).getD k []=body js[k]:=by
  simp only [List.getD,List.getElem?_append_left (show k<(js.map body).length by simpa using hkl),List.getElem?_map,List.getElem?_eq_getElem hkl];rfl
 rw [hg] at hp;have hok:okI js[k]=true:=(List.all_eq_true.1 hj) _ (List.getElem_mem hkl);rw [h1,hp js[k] hok rfl,<- List.take_succ_eq_append_getElem hkl]
theorem sofar_end (h:Sofar S is k) (hk:k+1=(cutS 10 S).length) (h300:S.length<=300):(S≠[]/\formL is=S->IsRead S is true)/\(¬ (S≠[]/\formL is=S)->IsRead S [] false):=by
 constructor
 · rintro ⟨h1,h2⟩
   unfold formL at h2;by_cases hc:okT is=true/\(is.flatMap lineL).length<=300
   · rw [if_pos hc] at h2
     exact ⟨fun _=>⟨hc.1,h2,h300⟩,(fun h=>by cases h)⟩
   rw [if_neg hc] at h2;exact absurd h2.symm h1
 intro hn;refine ⟨(fun h=>by cases h),fun _=>⟨rfl,fun js hj e=>?_⟩⟩;exfalso;apply hn;obtain ⟨⟨hl1,hl2⟩,hall⟩:=okT_facts hj;have h1:=h js hall e;have hc:=cut_lines js;rw [e] at hc;rw [hc] at hk;simp only [List.length_append,List.length_map,List.length_cons,List.length_nil] at hk;rw [List.take_of_length_le om_] at h1;subst h1;refine ⟨fun e0=>?_,?_⟩
 · rw [e0] at e
   have:=lines_ge is;rw [e,List.length_nil] at this;omega
 unfold formL;rw [if_pos ⟨hj,by rw [e];exact h300⟩,e]
structure Mid (X:Nat) (w1 wq:World) (o:Int) (tx:ByteArray) (to:Int):Prop where
 but:But X w1 wq
 blk:wq.heap[X]?=some (.cells #[.int .i64 o,.string tx,.int .i64 to] 92 (0,0))
theorem Mid.below {wp:World} (h:Mid X w1 wq o tx to) (hb:Below wq.heap.size wq wp):Mid X w1 wp o tx to:=
 ⟨h.but.trans (But.of_below hb),(hb.block X (blk_lt h.blk)).trans h.blk⟩
theorem Mid.set0 (h:Mid X w1 wq o tx to) (o':Int):Mid X w1 (wq.setCell ⟨X,0,none⟩ (.int .i64 o')) o' tx to:=
 ⟨h.but.setCell _ _,heap_setCell_same wq X 0 _ _ _ h.blk⟩
theorem Mid.set1 (h:Mid X w1 wq o tx to) (t':ByteArray):Mid X w1 (wq.setCell ⟨X,1,none⟩ (.string t')) o t' to:=
 ⟨h.but.setCell _ _,heap_setCell_same wq X 1 _ _ _ h.blk⟩
theorem Mid.set2 (h:Mid X w1 wq o tx to) (n':Int):Mid X w1 (wq.setCell ⟨X,2,none⟩ (.int .i64 n')) o tx n':=
 ⟨h.but.setCell _ _,heap_setCell_same wq X 2 _ _ _ h.blk⟩
theorem Mid.cells (h:Mid X w1 wq o tx to):
 (wq.cell? ⟨X,0,none⟩=some (.int .i64 o)/\wq.cell? ⟨X,1,none⟩=some (.string tx)/\wq.cell? ⟨X,2,none⟩=some (.int .i64 to))/\wq.frozen? ⟨X,0,none⟩=false/\wq.frozen? ⟨X,1,none⟩=false/\wq.frozen? ⟨X,2,none⟩=false:=by
 refine ⟨⟨?_,?_,?_⟩,Lib.frozen_of_heap h.blk 0,Lib.frozen_of_heap h.blk 1,Lib.frozen_of_heap h.blk 2⟩
 · rw [Lib.cell_of_heap h.blk];rfl
 · rw [Lib.cell_of_heap h.blk];rfl
 rw [Lib.cell_of_heap h.blk];rfl
theorem owns_but (h:w.ownsRow base e size v n xs) (hb:But b w w') (hne:v.ownBlock≠some b):w'.ownsRow base e size v n xs:=by
 refine ⟨h.1,?_⟩;rcases h.2 with h2 | ⟨g,cap,cur,hv,hg,hh,r⟩
 · exact .inl h2
 refine .inr ⟨g,cap,cur,hv,hg,?_,r⟩;rw [hb.block g (blk_lt hh) (fun e=>hne (by rw [hv,e];rfl))];exact hh
def OpTo (l:List UInt8) (q:Nat) (o:Int):Prop:=(o=0/\∀ p:Nat,1<=p->p<q->word p≠wordOf l)\/((1<=o/\o<q)/\word o=wordOf l)
theorem opTo_yes (_h:OpTo l q o) (hq:1<=q) (hw:word q=wordOf l):OpTo l (q+1) q:=.inr ⟨om_,hw⟩
theorem opTo_no (h:OpTo l q o) (hw:word q≠wordOf l):OpTo l (q+1) o:=by
 rcases h with ⟨h1,h2⟩ | ⟨h1,h2⟩
 · refine .inl ⟨h1,fun p hp hq=>?_⟩
   by_cases e:p=q
   · subst e;exact hw
   exact h2 p hp om_
 exact .inr ⟨om_,h2⟩
theorem opTo_end (h:OpTo l 12 o):OpOf l o:=by
 rcases h with ⟨h1,h2⟩ | ⟨h1,h2⟩
 · exact .inl ⟨h1,fun p hp hq=>h2 p hp om_⟩
 exact .inr ⟨om_,h2⟩
end Go.Proofs.YthjhakdpikdoeaaGreatDoor
