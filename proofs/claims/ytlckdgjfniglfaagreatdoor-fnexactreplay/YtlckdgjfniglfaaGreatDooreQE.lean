import Derived.Test.YtlckdgjfniglfaaGreatDooreY1
set_option linter.unusedVariables false
set_option maxHeartbeats 8000000
set_option maxRecDepth 100000
namespace Go.Proofs.YtlckdgjfniglfaaGreatDoor
open Proofs.Tryz
open Go.RowKit
theorem hx_hex0:∀ n:Fin 16,hx (hexL.getD n.val 0)=(n.val:Int):=dc_
theorem hx_hex (n:Nat) (h:n<16):hx (hexL.getD n 0)=n:=hx_hex0 ⟨n,h⟩
theorem hx_range (b:UInt8):-1<=hx b/\hx b<=15:=by
 unfold hx
 (repeat' split) <;> omega
def UnqTo (S t:List UInt8) (k:Nat):Prop:=∀ l,S=quoteL l->∃ r,l=t++r/\S.drop k=r.flatMap qb++[34]
theorem unq_start (S:List UInt8):UnqTo S [] 1:=fun l h=>⟨l,rfl,by rw [h];rfl⟩
theorem unq_end {S t:List UInt8} {k:Nat} (h:UnqTo S t k) (hk:S.length<=k+1) (l:List UInt8) (e:S=quoteL l):t=l:=by
 obtain ⟨r,h1,h2⟩:=h l e
 cases r with
 | nil=>simpa using h1.symm
 | cons c r=>
  have hq:1<=(qb c).length:=List.length_pos_iff.2 (qb_ne c);have:=congrArg List.length h2;simp only [List.length_drop,List.flatMap_cons,List.length_append,List.length_cons,List.length_nil] at this;omega
theorem unq_A {S t rest:List UInt8} {k:Nat} {a b:UInt8} (h:UnqTo S t k) (hd:S.drop k=92::a::b::rest):UnqTo S (t++[UInt8.ofNat (16*hx a+hx b).toNat]) (k+3):=by
 intro l e;obtain ⟨r,h1,h2⟩:=h l e
 cases r with
 | nil=>rw [hd] at h2;simp at h2
 | cons c r=>
  rw [hd,List.flatMap_cons] at h2;cases hc:plainB c
  · rw [qb_not hc] at h2
    simp only [List.cons_append,List.nil_append,List.cons.injEq,true_and] at h2;obtain ⟨ha,hb,hr⟩:=h2;have lc:=u8_lt c;have e1:hx a=(c.toNat / 16:Nat):=by rw [ha];exact hx_hex _ om_
    have e2:hx b=(c.toNat % 16:Nat):=by rw [hb];exact hx_hex _ om_
    have e3:UInt8.ofNat (16*hx a+hx b).toNat=c:=by
     rw [e1,e2];apply UInt8.toNat_inj.1;have:(16*((c.toNat / 16:Nat):Int)+((c.toNat % 16:Nat):Int)).toNat=c.toNat:=om_;rw [this];simp
    refine ⟨r,by rw [h1,e3];simp,?_⟩;rw [<- List.drop_drop,hd];exact hr
  · rw [qb_plain hc] at h2
    simp only [List.cons_append,List.nil_append,List.cons.injEq] at h2;rw [<- h2.1,plain_92] at hc;cases hc
theorem unq_B {S t rest:List UInt8} {k:Nat} {x:UInt8} (h:UnqTo S t k) (hd:S.drop k=x::rest) (hr0:rest≠[])
 (hn:∀ a b c q,x=92->rest=a::b::c::q->hx a<0\/hx b<0):UnqTo S (t++[x]) (k+1):=by
 intro l e;obtain ⟨r,h1,h2⟩:=h l e
 cases r with
 | nil=>rw [hd] at h2;simp at h2;exact absurd h2.2 hr0
 | cons c r=>
  rw [hd,List.flatMap_cons] at h2;cases hc:plainB c
  · rw [qb_not hc] at h2
    simp only [List.cons_append,List.nil_append,List.cons.injEq] at h2;obtain ⟨hx0,hr⟩:=h2;exfalso;have lc:=u8_lt c;have e1:=hx_hex (c.toNat / 16) om_;have e2:=hx_hex (c.toNat % 16) om_;rcases hq:r.flatMap qb++[34] with _ | ⟨d,q⟩
    · simp at hq
    · rw [hq] at hr
      rcases hn _ _ _ _ hx0 hr with h | h <;> omega
  · rw [qb_plain hc] at h2
    simp only [List.cons_append,List.nil_append,List.cons.injEq] at h2;refine ⟨r,by rw [h1,h2.1];simp,?_⟩;rw [<- List.drop_drop,hd];exact h2.2
theorem dropE (s:ByteArray) (k:Nat) (h:k<s.size):s.data.toList.drop k=s[k]::s.data.toList.drop (k+1):=by
 rw [List.drop_eq_getElem_cons (by simpa using h)];rfl
theorem hx_byte (a b:UInt8) (h1:0<=hx a) (h2:0<=hx b):((UInt8.ofNat (16*hx a+hx b).toNat).toNat:Int)=16*hx a+hx b:=by
 have:=hx_range a;have:=hx_range b;simp;omega
theorem convE {w:World} {base g cp:Nat} {l:List UInt8} (h:w.ownsRow base 5 1 (.slice (some ⟨g,0,none⟩) l.length cp) l.length (Lib.byteCells l)):(convert 122 9 (.slice (some ⟨g,0,none⟩) l.length cp)).run prog w=.ok (.string (ofL l)) w:=by
 have:=run_convert_bytes_arg (P:=prog) w 122 5 underlying122 underlying5 g 0 l.length cp (l.map fun b=>(b.toNat:Int)) sm_ (fun i hi=>by
  rw [Nat.zero_add,h.cellAt i om_];simp [Lib.byteCells,hi]) 9 underlying9
 rw [this];have e:l.map ((fun n:Int=>UInt8.ofNat n.toNat)∘fun b=>(b.toNat:Int))=l:=(List.map_congr_left (fun b _=>sm_)).trans (List.map_id l);simp only [strOfNums,List.map_map,e];rfl
theorem own_form {w:World} {base:Nat} {e:TypeId} {size:Nat} {v:Value} {n:Nat} {xs:List Value} (h:w.ownsRow base e size v n xs) (hn:0<n):∃ g cp,v=.slice (some ⟨g,0,none⟩) n cp:=by
 rcases h.2 with ⟨_,h0⟩ | ⟨g,cap,cur,hv,_⟩
 · omega
 · exact ⟨g,cap,hv⟩
theorem c32 (s:ByteArray) (w:World) (hs:s.size<=1048700):
 Calls prog 32 #[.string s] w fun e w'=>(∃ t,e=.returned (.string (ofL t))/\t.length<=s.size+1/\∀ l,s.data.toList=quoteL l->t=l)/\Below w.heap.size w w':=by
 obtain ⟨i0,hi,hz0,hz1,hz2⟩:=info_parts info5;go_enter func32,ntmps32
 go_wp2_with fail
 go_loopw [3,4] (fun v i wr=>∃ (k:Nat) (t:List UInt8),1<=k/\k<=s.size+1/\i=.int .i64 k/\t.length<=k/\wr.ownsRow w.heap.size 5 1 v t.length (Lib.byteCells t)/\Hid (∃ g cp,v=.slice (some ⟨g,0,none⟩) t.length cp)/\Hid (UnqTo s.data.toList t k)/\Below w.heap.size w wr/\w.heap.size+1<=wr.heap.size) (fun _ i _=>s.size+1 - (intOf i).toNat)
 case atStart=>exact ⟨1,[],om_,om_,rfl,sm_,World.ownsRow_lit _ #[] 0 lr_ (Nat.zero_le _) rfl,⟨_,_,rfl⟩,unq_start _,bA_,sm_⟩
 case round=>
  obtain ⟨k,t,hk1,hk2,rfl,htk,hown,hfm,hun,hb,hz⟩:=hrel;by_cases hlt:k+1<s.size
  · have hlk:k<s.size:=om_
    have D0:Hid (s.data.toList.drop k=s[k]::s.data.toList.drop (k+1)):=dropE s k hlk;have D1:Hid (s.data.toList.drop (k+1)=s[k+1]::s.data.toList.drop (k+1+1)):=dropE s (k+1) hlt;by_cases h92:s[k]=92
    · have e92:((s[k].toNat:Int)==92)=true:=by rw [h92];rfl
      by_cases h3:k+3<s.size
      · have hlk2:k+2<s.size:=om_
        have D2:Hid (s.data.toList.drop (k+1+1)=s[k+2]::s.data.toList.drop (k+3)):=dropE s (k+2) hlk2;have r1:=hx_range s[k+1];have r2:=hx_range s[k+2];by_cases q1:0<=hx s[k+1]
        · by_cases q2:0<=hx s[k+2]
          · have HN:Hid (UnqTo s.data.toList (t++[UInt8.ofNat (16*hx s[k+1]+hx s[k+2]).toNat]) (k+3)):=unq_A hun.out (by rw [D0.out,D1.out,D2.out,h92])
            have HB:Hid (((UInt8.ofNat (16*hx s[k+1]+hx s[k+2]).toNat).toNat:Int)=16*hx s[k+1]+hx s[k+2]):=hx_byte _ _ q1 q2;clear h92
            go_wp2_with (go_at_call 58;refine (c58 _ _).mono ?_;rintro e w1 ⟨rfl,hw1⟩;obtain rfl:=hw1.symm)
            have wk1:IntKind.i64.wrap ((k:Int)+1)=((k+1:Nat):Int):=by simp [IntKind.wrap,IntKind.signed,IntKind.bits];omega
            have wk2:IntKind.i64.wrap ((k:Int)+2)=((k+2:Nat):Int):=by simp [IntKind.wrap,IntKind.signed,IntKind.bits];omega
            have wm:IntKind.i64.wrap (16*hx s[k+1])=16*hx s[k+1]:=by simp [IntKind.wrap,IntKind.signed,IntKind.bits];omega
            have wa:IntKind.i64.wrap (16*hx s[k+1]+hx s[k+2])=16*hx s[k+1]+hx s[k+2]:=by simp [IntKind.wrap,IntKind.signed,IntKind.bits];omega
            have wu:IntKind.u8.wrap (16*hx s[k+1]+hx s[k+2])=16*hx s[k+1]+hx s[k+2]:=by simp [IntKind.wrap,IntKind.signed,IntKind.bits];omega
            have WA:Hid (IntKind.u8.wrap (IntKind.i64.wrap (16*hx s[k+1]+hx s[k+2]))=16*hx s[k+1]+hx s[k+2]):=by rw [wa,wu];rfl
            have hc1:((k+1:Nat):Int)<(s.size:Int):=om_;have hc2:((k+2:Nat):Int)<(s.size:Int):=om_
            go_region_law (first | (refine step_app rfl (.tmp 40) (.tmp 54) 122 rfl w.heap.size 5 i0 (.int .u8 0) 1 1 underlying122 hi hz0 hz1 hz2 rfl dc_ _ _ _ rfl ((hown.drew).alloc _) ⟨wr.heap.size,0,none⟩ 1 1 [_] rfl rfl (cell_one_new _ _ _) (by intro u hu;simp at hu;subst hu;rfl) (by unfold maxLen;omega) om_ so_ ?_;intro v' w2 hown' hgrow) | (go_simp;go_wp2_with (go_at_call 58;refine (c58 _ _).mono ?_;rintro e w1 ⟨rfl,hw1⟩;obtain rfl:=hw1.symm)))
            all_goals clear wk1 wk2 wm wa wu hc1 hc2
            all_goals go_wp2
            all_goals go_roundw
            all_goals (try (simp [intOf];omega;done))
            all_goals
             have hB2:Below w.heap.size w w2:=((hb.drew).alloc hb.size _).grown hgrow so_ (fun j hj=>(hown.lt j hj).1);have ho2:w2.ownsRow w.heap.size 5 1 v' (t++[UInt8.ofNat (16*hx s[k+1]+hx s[k+2]).toNat]).length (Lib.byteCells (t++[UInt8.ofNat (16*hx s[k+1]+hx s[k+2]).toNat])):=by
              rw [cells_snoc,List.length_append];rw [show Lib.byteCells [UInt8.ofNat (16*hx s[k+1]+hx s[k+2]).toNat]=[.int .u8 (16*hx s[k+1]+hx s[k+2])] from congrArg (fun z:Int=>[Value.int .u8 z]) HB.out];have hq:=hown';simp only [show ((k:Int)+2).toNat=k+2 by omega,WA.out] at hq;exact hq
             exact ⟨k+3,_,om_,om_,by go_num,so_,ho2,own_form ho2 sm_,HN,hB2,by have:=hgrow.size;simp at this;omega⟩
          · have HN:Hid (UnqTo s.data.toList (t++[s[k]]) (k+1)):=unq_B hun.out (by rw [D0.out]) (by rw [D1.out];simp) (fun a b c q _ h=>.inr (by rw [D1.out,D2.out] at h;injection h with _ h;injection h with h _;rw [<- h];omega))
            clear h92
            go_wp2_with (first | (go_at_call 58;refine (c58 _ _).mono ?_;rintro e w1 ⟨rfl,hw1⟩;obtain rfl:=hw1.symm) | (at_builtin;refine wpList_append_own _ rfl _ _ 122 rfl w.heap.size 5 i0 (.int .u8 0) 1 1 underlying122 hi hz0 hz1 hz2 rfl dc_ _ _ _ rfl (hown.alloc _) ⟨wr.heap.size,0,none⟩ 1 1 [_] rfl rfl (cell_one_new _ _ _) (by intro u hu;simp at hu;subst hu;rfl) (by unfold maxLen;omega) om_ so_ ?_;intro v' w2 hown' hgrow _))
            go_roundw
            case rel=>
             have hB2:Below w.heap.size w w2:=(hb.alloc hb.size _).grown hgrow so_ (fun j hj=>(hown.lt j hj).1);have ho2:w2.ownsRow w.heap.size 5 1 v' (t++[s[k]]).length (Lib.byteCells (t++[s[k]])):=by rw [cells_snoc,List.length_append];exact hown'
             exact ⟨k+1,t++[s[k]],om_,om_,by go_num,so_,ho2,own_form ho2 sm_,HN,hB2,by have:=hgrow.size;simp at this;omega⟩
            case measure=>simp [intOf];omega
        · have HN:Hid (UnqTo s.data.toList (t++[s[k]]) (k+1)):=unq_B hun.out (by rw [D0.out]) (by rw [D1.out];simp) (fun a b c q _ h=>.inl (by rw [D1.out] at h;injection h with h _;rw [<- h];omega))
          clear h92
          go_wp2_with (first | (go_at_call 58;refine (c58 _ _).mono ?_;rintro e w1 ⟨rfl,hw1⟩;obtain rfl:=hw1.symm) | (at_builtin;refine wpList_append_own _ rfl _ _ 122 rfl w.heap.size 5 i0 (.int .u8 0) 1 1 underlying122 hi hz0 hz1 hz2 rfl dc_ _ _ _ rfl (hown.alloc _) ⟨wr.heap.size,0,none⟩ 1 1 [_] rfl rfl (cell_one_new _ _ _) (by intro u hu;simp at hu;subst hu;rfl) (by unfold maxLen;omega) om_ so_ ?_;intro v' w2 hown' hgrow _))
          go_roundw
          case rel=>
           have hB2:Below w.heap.size w w2:=(hb.alloc hb.size _).grown hgrow so_ (fun j hj=>(hown.lt j hj).1);have ho2:w2.ownsRow w.heap.size 5 1 v' (t++[s[k]]).length (Lib.byteCells (t++[s[k]])):=by rw [cells_snoc,List.length_append];exact hown'
           exact ⟨k+1,t++[s[k]],om_,om_,by go_num,so_,ho2,own_form ho2 sm_,HN,hB2,by have:=hgrow.size;simp at this;omega⟩
          case measure=>simp [intOf];omega
      · have HN:Hid (UnqTo s.data.toList (t++[s[k]]) (k+1)):=unq_B hun.out (by rw [D0.out]) (by rw [D1.out];simp) (fun a b c q _ h=>by have hh:=congrArg List.length h;simp at hh;omega)
        clear h92
        go_wp2_with (first | (go_at_call 58;refine (c58 _ _).mono ?_;rintro e w1 ⟨rfl,hw1⟩;obtain rfl:=hw1.symm) | (at_builtin;refine wpList_append_own _ rfl _ _ 122 rfl w.heap.size 5 i0 (.int .u8 0) 1 1 underlying122 hi hz0 hz1 hz2 rfl dc_ _ _ _ rfl (hown.alloc _) ⟨wr.heap.size,0,none⟩ 1 1 [_] rfl rfl (cell_one_new _ _ _) (by intro u hu;simp at hu;subst hu;rfl) (by unfold maxLen;omega) om_ so_ ?_;intro v' w2 hown' hgrow _))
        go_roundw
        case rel=>
         have hB2:Below w.heap.size w w2:=(hb.alloc hb.size _).grown hgrow so_ (fun j hj=>(hown.lt j hj).1);have ho2:w2.ownsRow w.heap.size 5 1 v' (t++[s[k]]).length (Lib.byteCells (t++[s[k]])):=by rw [cells_snoc,List.length_append];exact hown'
         exact ⟨k+1,t++[s[k]],om_,om_,by go_num,so_,ho2,own_form ho2 sm_,HN,hB2,by have:=hgrow.size;simp at this;omega⟩
        case measure=>simp [intOf];omega
    · have e92:((s[k].toNat:Int)==92)=false:=by
       simp only [beq_eq_false_iff_ne];intro e;exact h92 (UInt8.toNat_inj.1 (by
        have:s[k].toNat=92:=om_;rw [this];rfl))
      have HN:Hid (UnqTo s.data.toList (t++[s[k]]) (k+1)):=unq_B hun.out (by rw [D0.out]) (by rw [D1.out];simp) (fun a b c q h _=>absurd h h92);clear h92
      go_wp2_with (first | (go_at_call 58;refine (c58 _ _).mono ?_;rintro e w1 ⟨rfl,hw1⟩;obtain rfl:=hw1.symm) | (at_builtin;refine wpList_append_own _ rfl _ _ 122 rfl w.heap.size 5 i0 (.int .u8 0) 1 1 underlying122 hi hz0 hz1 hz2 rfl dc_ _ _ _ rfl (hown.alloc _) ⟨wr.heap.size,0,none⟩ 1 1 [_] rfl rfl (cell_one_new _ _ _) (by intro u hu;simp at hu;subst hu;rfl) (by unfold maxLen;omega) om_ so_ ?_;intro v' w2 hown' hgrow _))
      go_roundw
      case rel=>
       have hB2:Below w.heap.size w w2:=(hb.alloc hb.size _).grown hgrow so_ (fun j hj=>(hown.lt j hj).1);have ho2:w2.ownsRow w.heap.size 5 1 v' (t++[s[k]]).length (Lib.byteCells (t++[s[k]])):=by rw [cells_snoc,List.length_append];exact hown'
       exact ⟨k+1,t++[s[k]],om_,om_,by go_num,so_,ho2,own_form ho2 sm_,HN,hB2,by have:=hgrow.size;simp at this;omega⟩
      case measure=>simp [intOf];omega
  · have HE:Hid (∀ l,s.data.toList=quoteL l->t=l):=unq_end hun.out so_
    have HL:Hid (t.length<=s.size+1):=by show t.length<=s.size+1;omega
    obtain ⟨g,cp,hv⟩:=hfm.out;subst hv;have hcv:=convE hown;go_wp2;go_ret;exact ⟨⟨t,rfl,HL.out,HE.out⟩,hb⟩
end Go.Proofs.YtlckdgjfniglfaaGreatDoor
