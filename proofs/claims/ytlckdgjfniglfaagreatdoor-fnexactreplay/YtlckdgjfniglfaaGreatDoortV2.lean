import Derived.Test.YtlckdgjfniglfaaGreatDooreB6
import Derived.Test.YtlckdgjfniglfaaGreatDoorM5
import Derived.Maps.RangeWalk
import Derived.Laws.IdiomRangeMap
import Derived.Test.YtlckdgjfniglfaaGreatDoortT0
set_option linter.unusedVariables false
set_option maxRecDepth 100000
set_option maxHeartbeats 8000000
namespace Go.Proofs.YtlckdgjfniglfaaGreatDoor
open Proofs.Tryz
open Go.RowKit Go.Maps Go.Sort Go.Shelf
attribute [local go_sem] Oper.semAt_some
theorem c47 (mb:Option Nat) (n:Nat) (w:World):CallsIn Fence.wide n prog 47 #[.map mb] w fun e w'=>e=.returned (.func (.func 95) #[] #[.pointer (some ⟨w.heap.size,0,none⟩)])/\w'=w.alloc (.cells #[.map mb] 84):=by
 refine callsIn_of_wp func47 rfl trivial ?_ rfl;simp only [ntmps47,List.size_toArray,List.length_cons,List.length_nil,Nat.reduceAdd,Nat.reduceSub,Array.replicate_succ,Array.replicate_zero,List.push_toArray,List.append_toArray,List.nil_append,List.cons_append]
 gi_wp2
 go_ret;exact ⟨rfl,rfl⟩
theorem c48 (mb:Option Nat) (n:Nat) (w:World):CallsIn Fence.wide n prog 48 #[.map mb] w fun e w'=>e=.returned (.func (.func 98) #[] #[.pointer (some ⟨w.heap.size,0,none⟩)])/\w'=w.alloc (.cells #[.map mb] 85):=by
 refine callsIn_of_wp func48 rfl trivial ?_ rfl;simp only [ntmps48,List.size_toArray,List.length_cons,List.length_nil,Nat.reduceAdd,Nat.reduceSub,Array.replicate_succ,Array.replicate_zero,List.push_toArray,List.append_toArray,List.nil_append,List.cons_append]
 gi_wp2
 go_ret;exact ⟨rfl,rfl⟩
def gC (gs:List G3):List Value:=gs.flatMap fun g=>[.bool g.nm,.string g.tl,.string g.ar]
theorem gC_len (gs:List G3):(gC gs).length=gs.length*3:=by
 induction gs with
 | nil=>rfl
 | cons x r ih=>simp only [gC,List.flatMap_cons,List.length_append] at ih ⊢;rw [ih];simp;omega
theorem gC_one (gs:List G3):∀ u∈gC gs,u.oneCell'=true:=fun u hu=>by
 obtain ⟨g,_,h⟩:=List.mem_flatMap.1 hu;simp at h;rcases h with rfl | rfl | rfl <;> rfl
theorem gC_at (gs:List G3):∀ k,k<gs.length->(gC gs)[k*3]?=some (.bool (gs.getD k g3z).nm)/\(gC gs)[k*3+1]?=some (.string (gs.getD k g3z).tl)/\(gC gs)[k*3+2]?=some (.string (gs.getD k g3z).ar):=by
 induction gs with
 | nil=>intro k hk;exact absurd hk (Nat.not_lt_zero _)
 | cons x r ih=>
  intro k hk
  cases k with
  | zero=>exact ⟨rfl,rfl,rfl⟩
  | succ k=>
   have:=ih k (by simpa using hk);have e1:(k+1)*3=k*3+1+1+1:=om_;rw [e1];exact this
theorem gC_src {w:World} {b off:Nat} {gs:List G3} (h:∀ i,i<gs.length->w.cell? ⟨b,off+i*3,none⟩=some (.bool (gs.getD i g3z).nm)/\w.cell? ⟨b,off+i*3+1,none⟩=some (.string (gs.getD i g3z).tl)/\w.cell? ⟨b,off+i*3+2,none⟩=some (.string (gs.getD i g3z).ar)):∀ j v,(gC gs)[j]?=some v->w.cell? ((⟨b,off,none⟩:Addr).add j)=some v:=by
 intro j v hj;rw [adr_add];have hlt:j<gs.length*3:=by rw [<- gC_len];exact (List.getElem?_eq_some_iff.1 hj).1
 obtain ⟨q,hq⟩:∃ q,j / 3=q:=⟨_,rfl⟩;have hk:q<gs.length:=om_;obtain ⟨a0,a1,a2⟩:=gC_at gs q hk;obtain ⟨b0,b1,b2⟩:=h q hk;have hj3:j=q*3\/j=q*3+1\/j=q*3+2:=om_;rcases hj3 with e | e | e
 · subst e;rw [hj] at a0;cases a0;exact b0
 · subst e;rw [hj] at a1;cases a1;exact b1
 · subst e;rw [hj] at a2;cases a2;exact b2
theorem info119':(prog.info? 119).map (fun i=>(i.zero,i.size,i.bytes))=some (some (.agg #[.bool false,.string ⟨#[]⟩,.string ⟨#[]⟩]),3,40):=kr_
theorem gls_row {w:World} {base:Nat} {a:Option Addr} {c:Nat} {gs:List G3} (h:w.ownsRow base 119 3 (.slice a gs.length c) gs.length (gC gs)):GlsAt w a gs:=by
 have hrow:=h;rcases h.2 with ⟨hv,h0⟩ | ⟨g,cap,cur,hv,hg,hh,_⟩
 · exact .inl (List.length_eq_zero_iff.1 h0)
 · simp only [Value.slice.injEq] at hv
   obtain ⟨rfl,_,rfl⟩:=hv;refine .inr ⟨g,0,rfl,(Array.getElem?_eq_some_iff.1 hh).1,fun k hk=>?_⟩;obtain ⟨a0,a1,a2⟩:=gC_at gs k hk;refine ⟨?_,?_,?_⟩
   · rw [Nat.zero_add,hrow.cellAt (k*3) om_];exact a0
   · rw [Nat.zero_add,hrow.cellAt (k*3+1) om_];exact a1
   · rw [Nat.zero_add,hrow.cellAt (k*3+2) om_];exact a2
theorem c49_some (ad:Addr) (c:Nat) (gs:List G3) (w:World) (hl:gs.length<=1048576) (hsrc:∀ u,Below w.heap.size w u->∀ j v,(gC gs)[j]?=some v->u.cell? (ad.add j)=some v):
 Calls prog 49 #[.slice (some ad) gs.length c] w fun e w'=>(∃ a' c',e=.returned (.slice a' gs.length c')/\w'.ownsRow w.heap.size 119 3 (.slice a' gs.length c') gs.length (gC gs))/\Below w.heap.size w w':=by
 obtain ⟨i0,hi,hz0,hz1,hz2⟩:=info_parts' info119';have hnil:∀ u,(binOp .eql 94 (.slice (some ad) gs.length c) (.slice none 0 0)).run prog u=.ok (.bool false) u:=fun u=>kr_;have HSRC:=hI_ hsrc;clear hsrc;go_enter func49,ntmps49;have hmark:True:=trivial
 go_wp2_with (refine wpList_app rfl (.tmp 5) (.tmp 6) 94 rfl w.heap.size 119 i0 (.agg #[.bool false,.string ⟨#[]⟩,.string ⟨#[]⟩]) 3 40 underlying94 hi hz0 hz1 hz2 rfl dc_ _ _ _ rfl ((World.ownsRow_made w #[] 0 lr_ (Nat.zero_le _) rfl)) ad gs.length c (gC gs) rfl (gC_len gs) (HSRC.out _ bA_) (gC_one gs) (by unfold maxLen;omega) om_ sm_ ?_;revert hmark)
 intro v' w2 hown hgrow;obtain ⟨a',c',rfl⟩:=row_form hown;have hB2:Below w.heap.size w w2:=bA_.grown hgrow sm_ (fun kb h=>by have h':some w.heap.size=some kb:=h;injection h' with h';omega);go_wp2;go_ret;exact ⟨⟨a',c',rfl,hown⟩,hB2⟩
theorem c49_none (c:Nat) (w:World):
 Calls prog 49 #[.slice none 0 c] w fun e w'=>e=.returned (.slice none 0 0)/\Below w.heap.size w w':=by
 have hnil:∀ u,(binOp .eql 94 (.slice none 0 c) (.slice none 0 0)).run prog u=.ok (.bool true) u:=fun u=>kr_;go_enter func49,ntmps49;go_wp2;go_ret;exact ⟨rfl,Below.refl _ _⟩
theorem c49 (a:Option Addr) (c:Nat) (gs:List G3) (w:World) (hl:gs.length<=1048576) (hat:GlsAt w a gs):
 Calls prog 49 #[.slice a gs.length c] w fun e w'=>(∃ a' c',e=.returned (.slice a' gs.length c')/\w'.ownsRow w.heap.size 119 3 (.slice a' gs.length c') gs.length (gC gs))/\Below w.heap.size w w':=by
 cases a with
 | none=>
  rcases hat with rfl | ⟨b,off,h,_⟩
  · refine (c49_none c w).mono ?_
    rintro e w' ⟨rfl,hb⟩;exact ⟨⟨none,0,rfl,World.ownsRow_nil _ _ _ _⟩,hb⟩
  · cases h
 | some ad=>
  refine c49_some ad c gs w hl fun u hu=>?_;rcases hat with rfl | ⟨b,off,h,hlt,hc⟩
  · intro j v hj;simp [gC] at hj
  · cases h
    exact gC_src (fun i hi=>⟨(hu.cell (p:=⟨b,off+i*3,none⟩) hlt).trans (hc i hi).1,(hu.cell (p:=⟨b,off+i*3+1,none⟩) hlt).trans (hc i hi).2.1,(hu.cell (p:=⟨b,off+i*3+2,none⟩) hlt).trans (hc i hi).2.2⟩)
open Go.RowKit Go.Maps
open Go.WideElems (Fit rd rg pl rd_val rd_key)
def mk3 (p:ByteArray×Int×ByteArray):Value:=.agg #[.string p.1,.int .i64 p.2.1,.string p.2.2]
open Classical in
noncomputable def hRd (v:Value):Option (DataW Value×List MemPlace):=if ∃ p,v=mk3 p then some (.held v,[]) else none
theorem hRd_inv {v:Value} {y:DataW Value×List MemPlace} (h:hRd v=some y):(∃ p,v=mk3 p)/\y=(.held v,[]):=by
 unfold hRd at h;split at h
 · rename_i hp
   exact ⟨hp,(Option.some.inj h).symm⟩
 · cases h
theorem own_hold {w:World} {b n:Nat} {f:List (ByteArray×Value)} (h:w.ownsMap prog 9 tokR b n (mapD f)) (hf:∀ p∈f,∃ q,p.2=mk3 q):w.ownsMap prog 9 hRd b n (mapD f):=by
 obtain ⟨es,clock,hb,F,hs,hD⟩:=h;have hst:∀ x∈es.toList,∀ z,tokR x.val=some z->hRd x.val=some z:=fun x hx z hz=>by
  obtain ⟨y,hy⟩:=F.reads x hx;have hm:rg prog 9 tokR x∈(es.toList.map (rg prog 9 tokR)).foldr DataW.insert []:=mem_sorted.2 (List.mem_map_of_mem hx);have hD':f.map eS=(es.toList.map (rg prog 9 tokR)).foldr DataW.insert []:=by
   have:=hD;unfold mapD at this;exact DataW.map.inj this
  rw [<- hD'] at hm;obtain ⟨p,hp,e⟩:=List.mem_map.1 hm;have e2:rg prog 9 tokR x=y:=by unfold rg;rw [hy];rfl
  obtain ⟨z',hz',hy2⟩:=rd_val hy;have hz'':z'=(.held x.val,[]):=by unfold tokR at hz';exact (Option.some.inj hz').symm
  have e3:DataW.held p.2=DataW.held x.val:=by
   have:=congrArg Prod.snd (e.trans e2);rw [hy2,hz''] at this;exact this
  have e4:p.2=x.val:=by injection e3
  obtain ⟨q,hq⟩:=hf p hp;unfold tokR at hz;unfold hRd;rw [if_pos ⟨q,e4▸hq⟩];exact hz
 have h1:=World.ownsMap_of_fit (R:=hRd) hb F hst;rw [<- hD] at h1;exact h1.mono hs
theorem c94 (bd bs nd ns:Nat) (Dd:DataW Value) (f:List (ByteArray×Value)) (w:World) (hd:w.ownsMap prog 9 tokR bd nd Dd) (hs0:w.ownsMap prog 9 tokR bs ns (mapD f)) (hf:∀ p∈f,∃ q,p.2=mk3 q) (hne:bd≠bs) (hroom:nd+Maps.size (mapD f)<=maxLen):
 Calls prog 94 #[.map (some bd),.map (some bs)] w fun e w'=>e=.returned (.tuple #[])/\w'.ownsMap prog 9 tokR bd (nd+Maps.size (mapD f)) (Lib.mergeD Dd (mapD f))/\w.grownBy w' (some bd):=by
 have hs:=own_hold hs0 hf;generalize mapD f=Ds at*;have hbd:=hd.lt;have hbs:=hs.lt;go_enter func94,ntmps94
 go_wp2_with (first
  | (at_range;refine wpList_range_own _ rfl _ 84 rfl 9 92 lawS underlying84 hRd bs ns _ rfl hs ?_;intro w0 hrg0 hg0 hs0)
  | go_in)
 go_frame
 go_loopw [8] (fun _ wr=>∃ (left:Lit->Bool) (cnt:Nat) (Dout:DataW Value),wr.ranges prog 9 hRd bs w.heap.size ns Ds left cnt/\cnt<=Maps.size Ds/\
  wr.ownsMap prog 9 tokR bd (nd+(Maps.size Ds - cnt)) Dout/\Merged Dout Dd Ds left/\w.grownBy wr (some bd))
  (fun _ wr=>wr.rangeLeft bs w.heap.size)
 case atStart=>
  exact ⟨_,_,Dd,hrg0,Nat.le_refl _,(hd.kept hg0 sm_).mono om_,merged_start Dd Ds,hg0.but _⟩
 case round=>
  obtain ⟨left,cnt,Dout,hrg,hcs,hout,hM,hgw⟩:=hrel
  go_wp2_with (first
   | (at_next;refine wpList_next_ranges _ rfl _ rfl 9 lawS hRd id mk3 (fun key _ _=>⟨key,rfl⟩) (fun v _ h=>(hRd_inv h).1) bs w.heap.size ns _ _ _ rfl hrg ?_ ?_)
   | go_in)
  · intro hc0 hl0
    go_wp2
    go_end0
    subst hc0;have e:=merged_eq lawS.one hM hl0 (hout.canon lawS) (hd.canonK lawS) (hs.canonK lawS);subst e;exact ⟨rfl,by simpa using hout,hgw⟩
  · intro x ca cc cb kl yd yp w1 cnt1 hkey hlx hv hat hrg1 hlt hg1 hs1 hen
    have hy:=(hRd_inv hv).2;have hout1:=hout.kept hg1 (fun e=>by have:=Option.some.inj e;omega);have hg2:=World.grownBy_alloc w1 (.cells #[.string ca,.int .i64 cc,.string cb] 92) none;have hout2:=hI_ (hout1.alloc (.cells #[.string ca,.int .i64 cc,.string cb] 92));have hrg2:=hI_ (hrg1.kept hg2 sm_ sm_);have hv2:Hid (tokR (.agg #[.string ca,.int .i64 cc,.string cb])=some (yd,[])):=by show tokR _=_;rw [show yd=_ from congrArg Prod.fst hy];rfl
    simp only [mk3] at hen hkey ⊢;clear hy hv
    go_wp2_with (first
     | (at_mapUpdate;refine wpList_mapUpdate_own _ rfl _ _ _ 84 rfl 9 92 lawS underlying84 tokR bd _ _ rfl hout2.out om_ _ _ _ rfl rfl hkey yd [] hv2.out ?_;intro w2 hout3 hg3;go_frame)
     | go_in)
    have hrg3:=hrg2.out.kept hg3 (fun e=>hne (Option.some.inj e).symm) (fun e=>by have:=Option.some.inj e;omega);go_roundw
    case rel=>
     exact ⟨_,cnt1,_,hrg3,om_,hout3.mono om_,merged_step hM hout.isMap (lawS.key hkey) hat,((hgw.andThen hg1 (fun j hj=>.inl (by cases hj;exact Nat.le_refl _))).andThen hg2 (fun j hj=>by cases hj)).andThen hg3 (fun j hj=>.inr hj)⟩
    case measure=>rw [hrg3.left_eq,hrg.left_eq];exact hlt
end Go.Proofs.YtlckdgjfniglfaaGreatDoor
namespace Go.Proofs.YtlckdgjfniglfaaGreatDoor.T
open Proofs.Tryz
open Go.RowKit
theorem c28 (n a b:Int) (w:World):
 Calls prog 28 #[.int .i64 n,.int .i64 a,.int .i64 b] w fun e w'=>e=.returned (.bool (decide (a<=n/\n<=b)))/\w'=w:=by
 by_cases h1:a<=n <;> by_cases h2:n<=b
 all_goals
  go_enter func28,ntmps28;go_wp2
  all_goals go_ret
  all_goals exact ⟨by simp [*],rfl⟩
theorem adr_ne {B i j:Nat} (h:i≠j):(⟨B,i,none⟩:Addr)≠⟨B,j,none⟩:=by intro e;injection e with _ e;exact h e
theorem set2_at (u:World) (B j:Nat) (v0 v1 x0 x1:Value) (h0:u.cell? ⟨B,j,none⟩=some x0) (h1:u.cell? ⟨B,j+1,none⟩=some x1):
 ((u.setCell ⟨B,j,none⟩ v0).setCell ⟨B,j+1,none⟩ v1).cell? ⟨B,j,none⟩=some v0/\((u.setCell ⟨B,j,none⟩ v0).setCell ⟨B,j+1,none⟩ v1).cell? ⟨B,j+1,none⟩=some v1:=by
 have a1:(u.setCell ⟨B,j,none⟩ v0).cell? ⟨B,j+1,none⟩=some x1:=by rw [World.cell?_setCell_other _ _ _ _ (adr_ne om_)];exact h1
 refine ⟨?_,World.cell?_setCell_same _ _ _ a1⟩;rw [World.cell?_setCell_other _ _ _ _ (adr_ne om_)];exact World.cell?_setCell_same _ _ _ h0
theorem c101 (x:F2) (w:World):
 Calls prog 101 #[.agg #[.string x.nm,.string x.tx],.agg #[.string x.nm,.string x.tx]] w fun e w'=>e=.returned (.bool true)/\Below w.heap.size w w':=by
 go_enter func101,ntmps101;go_wp2;go_ret;exact ⟨rfl,bA_.alloc sm_ _⟩
theorem c50 (a a':Option Addr) (cap cap':Nat) (rs:List F2) (w:World) (hl:rs.length<=1048576) (hat:FilesAt w a rs) (hat':FilesAt w a' rs):
 Calls prog 50 #[.slice a rs.length cap,.slice a' rs.length cap'] w fun e w'=>e=.returned (.bool true)/\Below w.heap.size w w':=by
 obtain ⟨b,off,hc⟩:=files_some hat;have HC:Hid (rs=[]\/(a=some ⟨b,off,none⟩/\b<w.heap.size/\∀ i,i<rs.length->w.cell? ⟨b,off+i*2,none⟩=some (.string (rs.getD i f2z).nm)/\w.cell? ⟨b,off+i*2+1,none⟩=some (.string (rs.getD i f2z).tx))):=hc;clear hc hat;obtain ⟨b',off',hc'⟩:=files_some hat';have HC':Hid (rs=[]\/(a'=some ⟨b',off',none⟩/\b'<w.heap.size/\∀ i,i<rs.length->w.cell? ⟨b',off'+i*2,none⟩=some (.string (rs.getD i f2z).nm)/\w.cell? ⟨b',off'+i*2+1,none⟩=some (.string (rs.getD i f2z).tx))):=hc';clear hc' hat';go_enter func50,ntmps50
 go_wp2_with fail
 go_loopw [5] (fun i wr=>∃ (k:Nat),k<=rs.length/\i=.int .i64 k/\Below w.heap.size w wr) (fun i _=>rs.length - (intOf i).toNat)
 case atStart=>exact ⟨0,Nat.zero_le _,rfl,Below.refl _ _⟩
 case round=>
  obtain ⟨k,hk,rfl,hb⟩:=hrel;by_cases hlt:k<rs.length
  · rcases HC.out with hss | ⟨ha,hbw,hcell⟩
    · rw [hss] at hlt;exact absurd hlt (Nat.not_lt_zero _)
    rcases HC'.out with hss | ⟨ha',hbw',hcell'⟩
    · rw [hss] at hlt;exact absurd hlt (Nat.not_lt_zero _)
    subst ha;subst ha';have g0:=(hb.cell (p:=⟨b,off+k*2,none⟩) hbw).trans (hcell k hlt).1;have g1:=(hb.cell (p:=⟨b,off+k*2+1,none⟩) hbw).trans (hcell k hlt).2;have g0':=(hb.cell (p:=⟨b',off'+k*2,none⟩) hbw').trans (hcell' k hlt).1;have g1':=(hb.cell (p:=⟨b',off'+k*2+1,none⟩) hbw').trans (hcell' k hlt).2;generalize rs.getD k f2z=x at*;clear hcell hcell'
    go_wp2_with fail
    go_region_with (go_at_call 101;refine (c101 x _).mono ?_;rintro e w1 ⟨rfl,hb1⟩)
    all_goals go_wp2
    all_goals go_roundw
    all_goals first
     | exact ⟨k+1,om_,by go_num,(hb.drew).trans (hb1.mono hb.size)⟩
     | (simp [intOf];omega)
  · go_wp2
    go_ret;exact ⟨rfl,hb⟩
end Go.Proofs.YtlckdgjfniglfaaGreatDoor.T
