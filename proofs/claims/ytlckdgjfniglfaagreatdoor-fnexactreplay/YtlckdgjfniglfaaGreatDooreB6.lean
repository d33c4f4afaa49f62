import Derived.Test.YtlckdgjfniglfaaGreatDooreYI
import Derived.Test.YtlckdgjfniglfaaGreatDoorK5
import Derived.RangeFuncNested
import Derived.RangeFuncBound
import Derived.RangeFuncCalls
import Derived.RangeFuncLeaves
import Derived.Shelf.Abstract
import Derived.Shelf.AbstractIn
import Derived.Shelf.RegionOpen
import Derived.OwnWalkIn
import Derived.TacticsInMore
import Derived.LoopNIn
import Derived.LoopIn
import Derived.Test.YtlckdgjfniglfaaGreatDooreJ7
set_option linter.unusedVariables false
set_option maxHeartbeats 8000000
set_option maxRecDepth 100000
namespace Go.Proofs.YtlckdgjfniglfaaGreatDoor
open Proofs.Tryz
open Go.RowKit Go.Maps Go.Sort Go.Shelf
attribute [local go_sem] Oper.semAt_some
theorem enc_data (s:ByteArray):encStr s.data.toList=.string s:=by
 unfold encStr
 congr 1
theorem take_fin {n k:Nat} (h:k<n):(List.finRange n).take (k+1)=(List.finRange n).take k++[⟨k,h⟩]:=by
 rw [List.take_add_one,List.getElem?_eq_getElem (by simpa using h)];simp
def fB (W:World) (S j:Nat):Option Nat:=(W.cell? ⟨S,j,none⟩).bind Value.ownBlock
structure KpS (S j X:Nat) (W W':World):Prop where
 size:W.heap.size<=W'.heap.size
 same:∀ k o,W.heap[k]?=some o->(o.isCells=true\/o.isWalk=true)->(∀ cur fr,o≠.cells cur X fr)->k≠S->fB W S j≠some k->W'.heap[k]?=some o
 fld:fB W' S j=fB W S j\/∃ q,fB W' S j=some q/\W.heap.size<=q
theorem KpS.refl (S j X:Nat) (W:World):KpS S j X W W:=⟨Nat.le_refl _,fun _ _ h _ _ _ _=>h,.inl rfl⟩
theorem KpS.trans {S j X:Nat} {A B C:World} (h:KpS S j X A B) (k:KpS S j X B C):KpS S j X A C:=by
 refine ⟨Nat.le_trans h.size k.size,fun i o ho hc hX hS hf=>?_,?_⟩
 · have hi:=(Array.getElem?_eq_some_iff.1 ho).1
   refine k.same i o (h.same i o ho hc hX hS hf) hc hX hS ?_;rcases h.fld with e | ⟨q,e,hq⟩
   · rw [e];exact hf
   · rw [e];intro e2;have:=Option.some.inj e2;omega
 · rcases k.fld with e | ⟨q,e,hq⟩
   · rw [e];exact h.fld
   · exact .inr ⟨q,e,Nat.le_trans h.size hq⟩
theorem KpS.cell {S j X:Nat} {A B:World} (h:KpS S j X A B) (hf:fB A S j=none) {p:Addr} (hp:p.block≠S) {t:TypeId} (hT:OfT A p.block t) (ht:t≠X):B.cell? p=A.cell? p:=by
 obtain ⟨cur,fr,e⟩:=hT;have e2:=h.same _ _ e (.inl rfl) (fun cur' fr' e'=>by cases e';exact ht rfl) hp (by rw [hf];simp);unfold World.cell?;rw [e,e2]
theorem KpS.map {S j X:Nat} {A B:World} (h:KpS S j X A B) (hf:fB A S j=none) {k:TypeId} {R:Value->Option (DataW Value×List MemPlace)} {b n:Nat} {D:DataW Value} (hb:b≠S) (hm:A.ownsMap prog k R b n D):B.ownsMap prog k R b n D:=by
 obtain ⟨es,ck,hh,r⟩:=hm;exact ⟨es,ck,h.same b _ hh (.inr rfl) (fun _ _ e=>by cases e) hb (by rw [hf];simp),r⟩
theorem row_cells1 {w:World} {B e:Nat} {va:Option Addr} {vc n:Nat} {xs:List Value} (h:w.ownsRow B e 1 (.slice va n vc) n xs):n=0\/∃ g,va=some ⟨g,0,none⟩/\B<=g/\g<w.heap.size/\OfT w g e/\∀ k,k<n->w.cell? ⟨g,k,none⟩=some (xs.getD k undef):=by
 have hrow:=h;rcases h.2 with ⟨hv,h0⟩ | ⟨g,cap,cur,hv,hg,hh,_⟩
 · exact .inl h0
 · simp only [Value.slice.injEq] at hv
   obtain ⟨rfl,_,rfl⟩:=hv;refine .inr ⟨g,rfl,hg,(Array.getElem?_eq_some_iff.1 hh).1,⟨cur,(0,0),hh⟩,fun k hk=>?_⟩;have hx:k<xs.length:=by have:=h.1;omega
   rw [hrow.cellAt k om_];simp only [List.getD,List.getElem?_eq_getElem hx,Option.getD_some]
theorem row_atS (l:List (ByteArray×Value)) {k:Nat} (h:k<l.length):(l.map fun p=>Value.string p.1).getD k undef=.string (l[k]'h).1:=by
 simp only [List.getD,List.getElem?_map,List.getElem?_eq_getElem h,Option.map_some,Option.getD_some]
theorem row_atI (l:List Value) {k:Nat} (h:k<l.length):((List.range l.length).map fun i:Nat=>Value.int .i64 (i:Int)).getD k undef=.int .i64 (k:Int):=by
 simp only [List.getD,List.getElem?_map,List.getElem?_range h,Option.map_some,Option.getD_some]
theorem sortsS (m:Nat):AnyZ.SortsIn prog Tryz.sortedA_ren Fence.wide m:=
 ⟨fun blk off cap ss W hH hblk hsz=>callsIn_wide.2 (AnyM.slices_Sort_string Tryz.sortA blk off cap ss W hH hblk hsz),
  fun p cap W=>callsIn_wide.2 (AnyM.slices_Sort_string_none Tryz.sortA p cap W)⟩
theorem it92 (S j Bm b nn:Nat) (l:List (ByteArray×Value)) (w:World) (hA:Asc l) (hks:∀ p∈l,p.1.size<=maxLen) (hl:l.length<=1000) (hBm:Bm<w.heap.size) (hm:w.cell? ⟨Bm,0,none⟩=some (.map (some b))) (hown:w.ownsMap prog 9 tokR b nn (mapD l)) (hTm:OfT w Bm 84) (hSB:Bm≠S) (hSw:S<w.heap.size) (hbS:b≠S) (hf0:fB w S j=none):
 SeqStopsK Fence.wide 10 prog 95 #[.pointer (some ⟨Bm,0,none⟩)] (fun i:Fin l.length=>#[(l[i.1]'i.2).2]) (KpS S j 92) (fun xs=>xs=List.finRange l.length) (fun _=>True) l.length w:=fun L J Jx W hW hJ hJx hY h0=>by
 have hmW:=(hW.cell (p:=⟨Bm,0,none⟩) hBm).trans hm;have hoW:W.ownsMap prog 9 tokR b nn (mapD l):=mp_below hown hW hown.lt;have hfW:fB W S j=none:=by unfold fB;rw [hW.cell (p:=⟨S,j,none⟩) hSw];exact hf0
 have hBW:Bm<W.heap.size:=Nat.lt_of_lt_of_le hBm hW.size;have hbl:=hoW.lt;clear hm hown hf0;have hseq:SeqGives Fence.wide 6 prog 136 #[.pointer (some ⟨W.heap.size,0,none⟩)] encStr (fun ss=>ss.Perm (strKeys (mapD l))) (Maps.size (mapD l)) (W.alloc (.cells #[.map (some b)] 84)):=
  AnyZ.keys_gives (ρ:=Tryz.keysA_ren) { Tryz.keysA with } Fence.wide _ trivial rfl om_ W.heap.size b nn (mapD l) _ sm_ sm_ (hoW.alloc _)
 have cK:∀ mb W,CallsIn Fence.wide 9 prog 97 #[.map mb] W fun e w'=>e=.returned (.func (.func 136) #[] #[.pointer (some ⟨W.heap.size,0,none⟩)])/\w'=W.alloc (.cells #[.map mb] 84):=fun mb W=>AnyZ.keys_in Tryz.keysA Fence.wide 9 trivial rfl mb W;have cS:=AnyZ.sorted_in Tryz.sortedA Fence.wide 9 trivial trivial trivial trivial rfl om_ (sortsS _) (enters_of func135 kr_ rfl) 136 #[.pointer (some ⟨W.heap.size,0,none⟩)] trivial (enters_of func136 kr_ rfl) _ _ (by rw [mapD_size];unfold maxLen;omega) (by rw [mapD_size];omega) _ hseq;change CallsIn _ _ prog 96 _ _ _ at cS;have cS2:CallsIn Fence.wide 9 prog 96 #[.func (.func 136) #[] #[.pointer (some ⟨W.heap.size,0,none⟩)]] (W.alloc (.cells #[.map (some b)] 84)) fun e w'=>∃ va vc,e=.returned (.slice va l.length vc)/\Hid (w'.ownsRow (W.heap.size+1) 9 1 (.slice va l.length vc) l.length (l.map fun p=>Value.string p.1))/\Below W.heap.size W w':=by
  refine cS.mono ?_;rintro e w' ⟨v,ss,rfl,hS,hrow,hnil,hb⟩;have hlen:ss.length=l.length:=by rw [hS.length_eq];rw [mapD_keys];simp
  rw [keys_sorted hA hS] at hrow;rw [List.map_map,show (encStr∘fun p:ByteArray×Value=>p.1.data.toList)=fun p=>Value.string p.1 from funext fun p=>enc_data p.1] at hrow;rw [hlen] at hrow;have hrow2:=own_low hrow (base':=W.heap.size+1) sm_;obtain ⟨va,vc,rfl⟩:=row_form hrow2;exact ⟨va,vc,rfl,hrow2,((Below.refl _ W).alloc lr_ _).trans (hb.mono sm_)⟩
 have hfK:Fence.wide.fn 97:=trivial;have hfS:Fence.wide.fn 96:=trivial;clear cS hseq;refine callsIn_of_wp func95 rfl trivial ?_ rfl;simp only [ntmps95,List.size_toArray,List.length_cons,List.length_nil,Nat.reduceAdd,Nat.reduceSub,Array.replicate_succ,Array.replicate_zero,List.push_toArray,List.append_toArray,List.nil_append,List.cons_append]
 gi_wp2_with (first
  | (gi_at_call 97;refine (cK _ _).mono ?_;rintro e w' ⟨rfl,rfl⟩)
  | (gi_at_call 96;refine cS2.mono ?_;rintro e W1 ⟨va,vc,rfl,hrow,hb⟩))
 clear cK cS2;have hJ1:J [] W1:=hJ [] W W1 none h0 (below_gb hb) (fun _ e=>by cases e);have hT1:=(hTm.below hW hBm).below hb hBW;have hm1:=(hb.cell (p:=⟨Bm,0,none⟩) hBW).trans hmW;have ho1:W1.ownsMap prog 9 tokR b nn (mapD l):=mp_below hoW hb hbl;have hf1:fB W1 S j=none:=by unfold fB;rw [hb.cell (p:=⟨S,j,none⟩) (Nat.lt_of_lt_of_le hSw hW.size)];exact hfW
 have hcs:=row_cells1 hrow.out;have hSW1:S<W.heap.size:=Nat.lt_of_lt_of_le hSw hW.size;have HO:=hI_ ho1;have HF:=hI_ hf1;have HC:=hI_ hcs;clear ho1 hf1 hcs hrow hoW hfW hmW
 gi_loopw [9] (fun i wr=>∃ k:Nat,k<=l.length/\i=.int .i64 k/\J ((List.finRange l.length).take k) wr/\KpS S j 92 W1 wr) (fun i _=>l.length - (Go.RowKit.intOf i).toNat)
 case atStart=>exact ⟨0,Nat.zero_le _,rfl,hJ1,KpS.refl _ _ _ _⟩
 case round=>
  obtain ⟨k,hk,rfl,hJs,hK⟩:=hrel;by_cases hlt:k<l.length
  · rcases HC.out with h0' | ⟨g,hva,hgW,hgw,hTg,hcell⟩
    · omega
    subst hva;have hgS:g≠S:=om_;have hc3:=(hK.cell HF.out (p:=⟨g,k,none⟩) hgS hTg dc_).trans (hcell k hlt);have hb3:=(hK.cell HF.out (p:=⟨Bm,0,none⟩) hSB hT1 dc_).trans hm1;have ho3:=hK.map HF.out hbS HO.out;have hq:=look_S (k:=(l[k]'hlt).1) (z:=.agg #[.string ⟨#[]⟩,.int .i64 0,.string ⟨#[]⟩]) ho3 underlying84 kr_ (hks _ (List.getElem_mem hlt));rw [getK_asc hA (k:=(l[k]'hlt).1) (v:=(l[k]'hlt).2) (List.getElem_mem hlt)] at hq;rw [Option.getD_some] at hq;rw [row_atS l hlt] at hc3;obtain ⟨fn,tmps,assign,body,hy,hR⟩:=hY _ ⟨k,hlt⟩ wr hJs (by rw [List.length_take,List.length_finRange];omega);dsimp only at hy;clear hY ho3;generalize hgk:(l[k]'hlt).1=kk at hq hc3;generalize hvk:(l[k]'hlt).2=vk at hq hy
    gi_wp2
    refine hR.mono ?_;rintro e W3 (⟨rfl,hJ3,hk3⟩ | ⟨rfl,hJx3⟩)
    · gi_wp2
      go_roundw
      case rel=>exact ⟨k+1,om_,by go_num,by rw [take_fin hlt];exact hJ3,hK.trans hk3⟩
      case measure=>simp [Go.RowKit.intOf];omega
    · gi_wp2
      refine bodyPost_ret (results_none rfl _ _ _) rfl ?_;exact ⟨⟨_,rfl⟩,.inr ⟨_,trivial,hJx3⟩⟩
  · obtain rfl:k=l.length:=om_
    gi_wp2
    go_end0
    exact ⟨⟨_,rfl⟩,.inl ⟨_,rfl,by rw [List.take_of_length_le sm_] at hJs;exact hJs⟩⟩
theorem sortsI (m:Nat):AnyZI.SortsIn prog Tryz.sortedB_ren Fence.wide m:=
 ⟨fun blk off cap ss W hH hblk hsz=>callsIn_wide.2 (AnyM.slices_Sort_int Tryz.sortB blk off cap ss W hH hblk hsz),
  fun p cap W=>callsIn_wide.2 (AnyM.slices_Sort_int_none Tryz.sortB p cap W)⟩
theorem it95 (S j Bm b nn:Nat) (l:List Value) (w:World) (hl:l.length<=1000) (hBm:Bm<w.heap.size) (hm:w.cell? ⟨Bm,0,none⟩=some (.map (some b))) (hown:w.ownsMap prog 3 tokR b nn (intD l)) (hTm:OfT w Bm 85) (hSB:Bm≠S) (hSw:S<w.heap.size) (hbS:b≠S) (hf0:fB w S j=none):
 SeqStopsK Fence.wide 10 prog 98 #[.pointer (some ⟨Bm,0,none⟩)] (fun i:Fin l.length=>#[(l[i.1]'i.2)]) (KpS S j 96) (fun xs=>xs=List.finRange l.length) (fun _=>True) l.length w:=fun L J Jx W hW hJ hJx hY h0=>by
 have hmW:=(hW.cell (p:=⟨Bm,0,none⟩) hBm).trans hm;have hoW:W.ownsMap prog 3 tokR b nn (intD l):=mp_below hown hW hown.lt;have hfW:fB W S j=none:=by unfold fB;rw [hW.cell (p:=⟨S,j,none⟩) hSw];exact hf0
 have hBW:Bm<W.heap.size:=Nat.lt_of_lt_of_le hBm hW.size;have hbl:=hoW.lt;clear hm hown hf0;have hseq:SeqGives Fence.wide 6 prog 139 #[.pointer (some ⟨W.heap.size,0,none⟩)] encZ (fun ss=>ss.Perm (intKeys (intD l))) (Maps.size (intD l)) (W.alloc (.cells #[.map (some b)] 85)):=
  AnyZI.keys_gives (ρ:=Tryz.keysB_ren) { Tryz.keysB with } Fence.wide _ trivial rfl om_ W.heap.size b nn (intD l) _ sm_ sm_ (hoW.alloc _)
 have cK:∀ mb W,CallsIn Fence.wide 9 prog 100 #[.map mb] W fun e w'=>e=.returned (.func (.func 139) #[] #[.pointer (some ⟨W.heap.size,0,none⟩)])/\w'=W.alloc (.cells #[.map mb] 85):=fun mb W=>AnyZI.keys_in Tryz.keysB Fence.wide 9 trivial rfl mb W;have cS:=AnyZI.sorted_in Tryz.sortedB Fence.wide 9 trivial trivial trivial trivial rfl om_ (sortsI _) (enters_of func138 kr_ rfl) 139 #[.pointer (some ⟨W.heap.size,0,none⟩)] trivial (enters_of func139 kr_ rfl) _ _ (by rw [intD_size];unfold maxLen;omega) (by rw [intD_size];omega) _ hseq;change CallsIn _ _ prog 99 _ _ _ at cS;have cS2:CallsIn Fence.wide 9 prog 99 #[.func (.func 139) #[] #[.pointer (some ⟨W.heap.size,0,none⟩)]] (W.alloc (.cells #[.map (some b)] 85)) fun e w'=>∃ va vc,e=.returned (.slice va l.length vc)/\Hid (w'.ownsRow (W.heap.size+1) 3 1 (.slice va l.length vc) l.length ((List.range l.length).map fun i:Nat=>Value.int .i64 (i:Int)))/\Below W.heap.size W w':=by
  refine cS.mono ?_;rintro e w' ⟨v,ss,rfl,hS,hrow,hnil,hb⟩;have hlen:ss.length=l.length:=by rw [hS.length_eq];rw [intD_keys];simp
  rw [ints_sorted hS] at hrow;rw [List.map_map] at hrow;rw [hlen] at hrow;have hrow2:=own_low hrow (base':=W.heap.size+1) sm_;obtain ⟨va,vc,rfl⟩:=row_form hrow2;exact ⟨va,vc,rfl,hrow2,((Below.refl _ W).alloc lr_ _).trans (hb.mono sm_)⟩
 have hfK:Fence.wide.fn 100:=trivial;have hfS:Fence.wide.fn 99:=trivial;clear cS hseq;refine callsIn_of_wp func98 rfl trivial ?_ rfl;simp only [ntmps98,List.size_toArray,List.length_cons,List.length_nil,Nat.reduceAdd,Nat.reduceSub,Array.replicate_succ,Array.replicate_zero,List.push_toArray,List.append_toArray,List.nil_append,List.cons_append]
 gi_wp2_with (first
  | (gi_at_call 100;refine (cK _ _).mono ?_;rintro e w' ⟨rfl,rfl⟩)
  | (gi_at_call 99;refine cS2.mono ?_;rintro e W1 ⟨va,vc,rfl,hrow,hb⟩))
 clear cK cS2;have hJ1:J [] W1:=hJ [] W W1 none h0 (below_gb hb) (fun _ e=>by cases e);have hT1:=(hTm.below hW hBm).below hb hBW;have hm1:=(hb.cell (p:=⟨Bm,0,none⟩) hBW).trans hmW;have ho1:W1.ownsMap prog 3 tokR b nn (intD l):=mp_below hoW hb hbl;have hf1:fB W1 S j=none:=by unfold fB;rw [hb.cell (p:=⟨S,j,none⟩) (Nat.lt_of_lt_of_le hSw hW.size)];exact hfW
 have hcs:=row_cells1 hrow.out;have hSW1:S<W.heap.size:=Nat.lt_of_lt_of_le hSw hW.size;have HO:=hI_ ho1;have HF:=hI_ hf1;have HC:=hI_ hcs;clear ho1 hf1 hcs hrow hoW hfW hmW
 gi_loopw [9] (fun i wr=>∃ k:Nat,k<=l.length/\i=.int .i64 k/\J ((List.finRange l.length).take k) wr/\KpS S j 96 W1 wr) (fun i _=>l.length - (Go.RowKit.intOf i).toNat)
 case atStart=>exact ⟨0,Nat.zero_le _,rfl,hJ1,KpS.refl _ _ _ _⟩
 case round=>
  obtain ⟨k,hk,rfl,hJs,hK⟩:=hrel;by_cases hlt:k<l.length
  · rcases HC.out with h0' | ⟨g,hva,hgW,hgw,hTg,hcell⟩
    · omega
    subst hva;have hgS:g≠S:=om_;have hc3:=(hK.cell HF.out (p:=⟨g,k,none⟩) hgS hTg dc_).trans (hcell k hlt);have hb3:=(hK.cell HF.out (p:=⟨Bm,0,none⟩) hSB hT1 dc_).trans hm1;have ho3:=hK.map HF.out hbS HO.out;have hq:=look_I (k:=k) (z:=.agg #[.string ⟨#[]⟩,.slice none 0 0,.string ⟨#[]⟩]) ho3 underlying85 kr_ om_ hlt;rw [show l.getD k undef=l[k]'hlt from by simp only [List.getD,List.getElem?_eq_getElem hlt,Option.getD_some]] at hq;rw [row_atI l hlt] at hc3;obtain ⟨fn,tmps,assign,body,hy,hR⟩:=hY _ ⟨k,hlt⟩ wr hJs (by rw [List.length_take,List.length_finRange];omega);dsimp only at hy;clear hY ho3;generalize hvk:(l[k]'hlt)=vk at hq hy
    gi_wp2
    refine hR.mono ?_;rintro e W3 (⟨rfl,hJ3,hk3⟩ | ⟨rfl,hJx3⟩)
    · gi_wp2
      go_roundw
      case rel=>exact ⟨k+1,om_,by go_num,by rw [take_fin hlt];exact hJ3,hK.trans hk3⟩
      case measure=>simp [Go.RowKit.intOf];omega
    · gi_wp2
      refine bodyPost_ret (results_none rfl _ _ _) rfl ?_;exact ⟨⟨_,rfl⟩,.inr ⟨_,trivial,hJx3⟩⟩
  · obtain rfl:k=l.length:=om_
    gi_wp2
    go_end0
    exact ⟨⟨_,rfl⟩,.inl ⟨_,rfl,by rw [List.take_of_length_le sm_] at hJs;exact hJs⟩⟩
open Go.RowKit
end Go.Proofs.YtlckdgjfniglfaaGreatDoor
