import Derived.Test.YtlckdgjfniglfaaGreatDoorD0
import Derived.Laws.BitsAllLaws
set_option linter.unusedVariables false
set_option maxHeartbeats 8000000
set_option maxRecDepth 100000
namespace Go.Proofs.YtlckdgjfniglfaaGreatDoor
open Proofs.Tryz
open Go.RowKit
structure G3 where
 nm:Bool
 tl:ByteArray
 ar:ByteArray
def g3z:G3:=⟨false,⟨#[]⟩,⟨#[]⟩⟩
def G3.v (x:G3):Value:=.agg #[.bool x.nm,.string x.tl,.string x.ar]
def G3.le (x:G3) (B:Nat):Prop:=x.tl.size<=B/\x.ar.size<=B
def GlsAt (w:World) (a:Option Addr) (is:List G3):Prop:=
 is=[]\/∃ b off,a=some ⟨b,off,none⟩/\b<w.heap.size/\∀ i,i<is.length->w.cell? ⟨b,off+i*3,none⟩=some (.bool (is.getD i g3z).nm)/\w.cell? ⟨b,off+i*3+1,none⟩=some (.string (is.getD i g3z).tl)/\w.cell? ⟨b,off+i*3+2,none⟩=some (.string (is.getD i g3z).ar)
theorem gls_some {w:World} {a:Option Addr} {is:List G3} (h:GlsAt w a is):∃ b off,(is=[]\/(a=some ⟨b,off,none⟩/\b<w.heap.size/\∀ i,i<is.length->w.cell? ⟨b,off+i*3,none⟩=some (.bool (is.getD i g3z).nm)/\w.cell? ⟨b,off+i*3+1,none⟩=some (.string (is.getD i g3z).tl)/\w.cell? ⟨b,off+i*3+2,none⟩=some (.string (is.getD i g3z).ar))):=by
 rcases h with h | ⟨b,off,h⟩
 · exact ⟨0,0,.inl h⟩
 · exact ⟨b,off,.inr h⟩
theorem gls_below {w w':World} {a:Option Addr} {is:List G3} (h:GlsAt w a is) (hb:Below w.heap.size w w'):GlsAt w' a is:=by
 rcases h with h | ⟨b,off,h1,h2,h3⟩
 · exact .inl h
 · exact .inr ⟨b,off,h1,Nat.lt_of_lt_of_le h2 hb.size,fun i hi=>by rw [hb.cell (by exact h2),hb.cell (by exact h2),hb.cell (by exact h2)];exact h3 i hi⟩
theorem gls_setCell {w:World} {g:Nat} {is:List G3} {q:Addr} {v:Value} (h:GlsAt w (some ⟨g,0,none⟩) is) (hq:q.block≠g):GlsAt (w.setCell q v) (some ⟨g,0,none⟩) is:=by
 rcases h with h | ⟨b,off,h1,h2,h3⟩
 · exact .inl h
 · have hg:b=g:=by injection h1 with h1;injection h1 with h1 _;exact h1.symm
   have hne:∀ j,q≠⟨b,j,none⟩:=fun j e=>hq (by rw [e];exact hg);refine .inr ⟨b,off,h1,by simpa using h2,fun i hi=>?_⟩;rw [World.cell?_setCell_other _ _ _ _ (hne _),World.cell?_setCell_other _ _ _ _ (hne _),World.cell?_setCell_other _ _ _ _ (hne _)];exact h3 i hi
theorem set3_at (u:World) (B j:Nat) (v0 v1 v2 x0 x1 x2:Value) (h0:u.cell? ⟨B,j,none⟩=some x0) (h1:u.cell? ⟨B,j+1,none⟩=some x1) (h2:u.cell? ⟨B,j+2,none⟩=some x2):
 (((u.setCell ⟨B,j,none⟩ v0).setCell ⟨B,j+1,none⟩ v1).setCell ⟨B,j+2,none⟩ v2).cell? ⟨B,j,none⟩=some v0/\(((u.setCell ⟨B,j,none⟩ v0).setCell ⟨B,j+1,none⟩ v1).setCell ⟨B,j+2,none⟩ v2).cell? ⟨B,j+1,none⟩=some v1/\(((u.setCell ⟨B,j,none⟩ v0).setCell ⟨B,j+1,none⟩ v1).setCell ⟨B,j+2,none⟩ v2).cell? ⟨B,j+2,none⟩=some v2:=by
 have a1:(u.setCell ⟨B,j,none⟩ v0).cell? ⟨B,j+1,none⟩=some x1:=by rw [World.cell?_setCell_other _ _ _ _ (adr_ne om_)];exact h1
 have a2:((u.setCell ⟨B,j,none⟩ v0).setCell ⟨B,j+1,none⟩ v1).cell? ⟨B,j+2,none⟩=some x2:=by
  rw [World.cell?_setCell_other _ _ _ _ (adr_ne om_),World.cell?_setCell_other _ _ _ _ (adr_ne om_)];exact h2
 refine ⟨?_,?_,World.cell?_setCell_same _ _ _ a2⟩
 · rw [World.cell?_setCell_other _ _ _ _ (adr_ne om_),World.cell?_setCell_other _ _ _ _ (adr_ne om_)];exact World.cell?_setCell_same _ _ _ h0
 · rw [World.cell?_setCell_other _ _ _ _ (adr_ne om_)];exact World.cell?_setCell_same _ _ _ a1
theorem info119:(prog.info? 119).map (fun i=>(i.zero,i.size,i.bytes))=some (some (.agg #[.bool false,.string ⟨#[]⟩,.string ⟨#[]⟩]),3,40):=kr_
theorem c163 (x:G3) (w:World):
 Calls prog 163 #[.agg #[.bool x.nm,.string x.tl,.string x.ar],.agg #[.bool x.nm,.string x.tl,.string x.ar]] w fun e w'=>e=.returned (.bool true)/\Below w.heap.size w w':=by
 go_enter func163,ntmps163;go_wp2;go_ret;exact ⟨rfl,bA_.alloc sm_ _⟩
theorem c140 (a a':Option Addr) (cap cap':Nat) (is:List G3) (w:World) (hl:is.length<=1048576) (hat:GlsAt w a is) (hat':GlsAt w a' is):
 Calls prog 140 #[.slice a is.length cap,.slice a' is.length cap'] w fun e w'=>e=.returned (.bool true)/\Below w.heap.size w w':=by
 obtain ⟨b,off,hc⟩:=gls_some hat;have HC:Hid (is=[]\/(a=some ⟨b,off,none⟩/\b<w.heap.size/\∀ i,i<is.length->w.cell? ⟨b,off+i*3,none⟩=some (.bool (is.getD i g3z).nm)/\w.cell? ⟨b,off+i*3+1,none⟩=some (.string (is.getD i g3z).tl)/\w.cell? ⟨b,off+i*3+2,none⟩=some (.string (is.getD i g3z).ar))):=hc;clear hc hat;obtain ⟨b',off',hc'⟩:=gls_some hat';have HC':Hid (is=[]\/(a'=some ⟨b',off',none⟩/\b'<w.heap.size/\∀ i,i<is.length->w.cell? ⟨b',off'+i*3,none⟩=some (.bool (is.getD i g3z).nm)/\w.cell? ⟨b',off'+i*3+1,none⟩=some (.string (is.getD i g3z).tl)/\w.cell? ⟨b',off'+i*3+2,none⟩=some (.string (is.getD i g3z).ar))):=hc';clear hc' hat';go_enter func140,ntmps140
 go_wp2_with fail
 go_loopw [5] (fun i wr=>∃ (k:Nat),k<=is.length/\i=.int .i64 k/\Below w.heap.size w wr) (fun i _=>is.length - (intOf i).toNat)
 case atStart=>exact ⟨0,Nat.zero_le _,rfl,Below.refl _ _⟩
 case round=>
  obtain ⟨k,hk,rfl,hb⟩:=hrel;by_cases hlt:k<is.length
  · rcases HC.out with hss | ⟨ha,hbw,hcell⟩
    · rw [hss] at hlt;exact absurd hlt (Nat.not_lt_zero _)
    rcases HC'.out with hss | ⟨ha',hbw',hcell'⟩
    · rw [hss] at hlt;exact absurd hlt (Nat.not_lt_zero _)
    subst ha;subst ha';have g0:=(hb.cell (p:=⟨b,off+k*3,none⟩) hbw).trans (hcell k hlt).1;have g1:=(hb.cell (p:=⟨b,off+k*3+1,none⟩) hbw).trans (hcell k hlt).2.1;have g2:=(hb.cell (p:=⟨b,off+k*3+2,none⟩) hbw).trans (hcell k hlt).2.2;have g0':=(hb.cell (p:=⟨b',off'+k*3,none⟩) hbw').trans (hcell' k hlt).1;have g1':=(hb.cell (p:=⟨b',off'+k*3+1,none⟩) hbw').trans (hcell' k hlt).2.1;have g2':=(hb.cell (p:=⟨b',off'+k*3+2,none⟩) hbw').trans (hcell' k hlt).2.2;generalize is.getD k g3z=x at*;clear hcell hcell'
    go_wp2_with fail
    go_region_with (go_at_call 163;refine (c163 x _).mono ?_;rintro e w1 ⟨rfl,hb1⟩)
    all_goals go_wp2
    all_goals go_roundw
    all_goals first
     | exact ⟨k+1,om_,by go_num,(hb.drew).trans (hb1.mono hb.size)⟩
     | (simp [intOf];omega)
  · go_wp2
    go_ret;exact ⟨rfl,hb⟩
structure R3 where
 key:ByteArray
 gs:List G3
 out:ByteArray
def r3z:R3:=⟨⟨#[]⟩,[],⟨#[]⟩⟩
def R3.le (x:R3) (B:Nat):Prop:=x.key.size<=B/\x.gs.length<=B/\(∀ i,(x.gs.getD i g3z).le B)/\x.out.size<=B
def RecAt (w:World) (b o:Nat) (x:R3):Prop:=∃ ai ci,w.cell? ⟨b,o,none⟩=some (.string x.key)/\w.cell? ⟨b,o+1,none⟩=some (.slice ai x.gs.length ci)/\w.cell? ⟨b,o+2,none⟩=some (.string x.out)/\GlsAt w ai x.gs
def RecsAt (w:World) (a:Option Addr) (is:List R3):Prop:=is=[]\/∃ b off,a=some ⟨b,off,none⟩/\b<w.heap.size/\∀ i,i<is.length->RecAt w b (off+i*3) (is.getD i r3z)
theorem RecAt.below {w w':World} {b o:Nat} {x:R3} (h:RecAt w b o x) (hlt:b<w.heap.size) (hb:Below w.heap.size w w'):RecAt w' b o x:=by
 obtain ⟨ai,ci,h0,h1,h2,h3⟩:=h;exact ⟨ai,ci,(hb.cell (by exact hlt)).trans h0,(hb.cell (by exact hlt)).trans h1,(hb.cell (by exact hlt)).trans h2,gls_below h3 hb⟩
theorem recs_some {w:World} {a:Option Addr} {is:List R3} (h:RecsAt w a is):∃ b off,(is=[]\/(a=some ⟨b,off,none⟩/\b<w.heap.size/\∀ i,i<is.length->RecAt w b (off+i*3) (is.getD i r3z))):=by
 rcases h with h | ⟨b,off,h⟩
 · exact ⟨0,0,.inl h⟩
 · exact ⟨b,off,.inr h⟩
theorem recs_below {w w':World} {a:Option Addr} {is:List R3} (h:RecsAt w a is) (hb:Below w.heap.size w w'):RecsAt w' a is:=by
 rcases h with h | ⟨b,off,h1,h2,h3⟩
 · exact .inl h
 · exact .inr ⟨b,off,h1,Nat.lt_of_lt_of_le h2 hb.size,fun i hi=>(h3 i hi).below h2 hb⟩
def gsum (is:List R3):Nat:=(is.map fun x=>x.gs.length).sum
theorem gsum_next {is:List R3} {k:Nat} (h:k<is.length):gsum (is.take (k+1))=gsum (is.take k)+(is.getD k r3z).gs.length:=by
 unfold gsum;rw [List.take_add_one,List.map_append,List.sum_append];simp [List.getD,List.getElem?_eq_getElem h]
theorem c102 (x:R3) (ai bi:Option Addr) (ci di:Nat) (w:World) (hl:x.gs.length<=1048576) (hat:GlsAt w ai x.gs) (hat':GlsAt w bi x.gs):
 Calls prog 102 #[.agg #[.string x.key,.slice ai x.gs.length ci,.string x.out],.agg #[.string x.key,.slice bi x.gs.length di,.string x.out]] w fun e w'=>e=.returned (.bool true)/\Below w.heap.size w w':=by
 have hB0:Below w.heap.size w ((w.alloc (.cells #[.string x.key,.slice ai x.gs.length ci,.string x.out] 96)).alloc (.cells #[.string x.key,.slice bi x.gs.length di,.string x.out] 96)):=bA_.alloc sm_ _;have h45:=c140 ai bi ci di x.gs _ hl (gls_below hat hB0) (gls_below hat' hB0);go_enter func102,ntmps102
 go_wp2_with fail
 refine h45.mono ?_;rintro e w1 ⟨rfl,hb1⟩;have hB1:Below w.heap.size w w1:=hB0.trans (hb1.mono so_);have g2:w1.cell? ⟨w.heap.size,2,none⟩=some (.string x.out):=by rw [hb1.cell so_];simp [go_sem]
 have g3:w1.cell? ⟨w.heap.size+1,2,none⟩=some (.string x.out):=by rw [hb1.cell sm_];simp [go_sem]
 clear h45 hat hat';go_wp2;go_ret;exact ⟨rfl,hB1⟩
def NewRec (L:Nat) (w:World) (b o:Nat) (x:R3):Prop:=∃ gi,L<=gi/\w.cell? ⟨b,o,none⟩=some (.string x.key)/\w.cell? ⟨b,o+1,none⟩=some (.slice (some ⟨gi,0,none⟩) x.gs.length x.gs.length)/\w.cell? ⟨b,o+2,none⟩=some (.string x.out)/\GlsAt w (some ⟨gi,0,none⟩) x.gs
theorem NewRec.rec {L:Nat} {w:World} {b o:Nat} {x:R3} (h:NewRec L w b o x):RecAt w b o x:=by
 obtain ⟨gi,_,h0,h1,h2,h3⟩:=h;exact ⟨_,_,h0,h1,h2,h3⟩
theorem NewRec.below {L:Nat} {w w':World} {b o:Nat} {x:R3} (h:NewRec L w b o x) (hlt:b<w.heap.size) (hb:Below w.heap.size w w'):NewRec L w' b o x:=by
 obtain ⟨gi,hg,h0,h1,h2,h3⟩:=h;exact ⟨gi,hg,(hb.cell (by exact hlt)).trans h0,(hb.cell (by exact hlt)).trans h1,(hb.cell (by exact hlt)).trans h2,gls_below h3 hb⟩
def RecsNew (w:World) (g:Nat) (is:List R3):Prop:=g<w.heap.size/\∀ i,i<is.length->NewRec (g+1) w g (i*3) (is.getD i r3z)
theorem RecsNew.recs {w:World} {g:Nat} {is:List R3} (h:RecsNew w g is):RecsAt w (some ⟨g,0,none⟩) is:=.inr ⟨g,0,rfl,h.1,fun i hi=>by rw [Nat.zero_add];exact (h.2 i hi).rec⟩
theorem NewRec.set {L:Nat} {w:World} {b o:Nat} {x:R3} {q:Addr} {v:Value} (h:NewRec L w b o x) (h1:q.block≠b) (h2:q.block<L):NewRec L (w.setCell q v) b o x:=by
 obtain ⟨gi,hg,h0,e1,e2,e3⟩:=h;have hne:∀ j,q≠⟨b,j,none⟩:=fun j e=>h1 (by rw [e]);exact ⟨gi,hg,by rw [World.cell?_setCell_other _ _ _ _ (hne _)];exact h0,by rw [World.cell?_setCell_other _ _ _ _ (hne _)];exact e1,by rw [World.cell?_setCell_other _ _ _ _ (hne _)];exact e2,gls_setCell e3 om_⟩
theorem RecsNew.set {w:World} {g:Nat} {is:List R3} {q:Addr} {v:Value} (h:RecsNew w g is) (hq:q.block<g):RecsNew (w.setCell q v) g is:=⟨by simpa using h.1,fun i hi=>(h.2 i hi).set om_ om_⟩
structure St where
 wd:Int
 ts:List ByteArray
 rs:List R3
def St.le (s:St) (B:Nat):Prop:=(s.ts.length<=B/\∀ i,(s.ts.getD i ByteArray.empty).size<=B)/\s.rs.length<=B/\∀ i,(s.rs.getD i r3z).le B
def StAt (w:World) (ta ra:Option Addr) (s:St):Prop:=StrsAt w ta s.ts/\RecsAt w ra s.rs
theorem StAt.below {w w':World} {ta ra:Option Addr} {s:St} (h:StAt w ta ra s) (hb:Below w.heap.size w w'):StAt w' ta ra s:=⟨strs_below h.1 hb,recs_below h.2 hb⟩
def GlOk (W:Int) (g:G3):Prop:=nameOk g.tl.data.toList=true/\(g.ar.size:Int)=W
def RecOk (W:Int) (x:R3):Prop:=(x.key.size<=321/\(x.out.size:Int)=W/\x.gs.length<=15)/\∀ i,i<x.gs.length->GlOk W (x.gs.getD i g3z)
def RecsOk (W:Int) (rs:List R3):Prop:=rs.length<=150/\∀ i,i<rs.length->RecOk W (rs.getD i r3z)
def StepT (ts:List ByteArray) (W:Int) (k:Nat):Prop:=(∃ c t,IsR (ts.getD k ByteArray.empty).data.toList c t true)/\(k=0\/Op.bytesLess (sumS (ts.getD (k - 1) ByteArray.empty) W).toList (sumS (ts.getD k ByteArray.empty) W).toList=true)
def TextsOk (ts:List ByteArray) (W:Int):Prop:=ts.length<=300/\∀ k,k<ts.length->StepT ts W k
def StOk (s:St):Prop:=(1<=s.wd/\s.wd<=8)/\TextsOk s.ts s.wd/\RecsOk s.wd s.rs
theorem isR_flag {l t:List UInt8} {c:Int} {ok:Bool} (h:IsR l c t ok):ok=true↔∃ c t,IsR l c t true:=by
 constructor
 · rintro rfl;exact ⟨c,t,h⟩
 · rintro ⟨c',t',h'⟩;exact (isR_one h h').2.2
theorem sumS_size {s:ByteArray} {n:Int} (h:1<=n/\n<=8):(sumS s n).size=n.toNat:=by
 unfold sumS;rw [if_pos h,strOfNums_size,outs_length]
def Rb (P:Prop) (e:Ending):Prop:=∃ b:Bool,e=.returned (.bool b)/\(b=true↔P)
theorem rb_no {P:Prop} (h:¬ P):Rb P (.returned (.bool false)):=⟨false,rfl,(fun h=>by cases h),fun p=>absurd p h⟩
theorem rb_yes {P:Prop} (h:P):Rb P (.returned (.bool true)):=⟨true,rfl,fun _=>h,fun _=>rfl⟩
structure M3 where
 nm:ByteArray
 tl:ByteArray
 ar:ByteArray
def m3z:M3:=⟨⟨#[]⟩,⟨#[]⟩,⟨#[]⟩⟩
def M3.v (x:M3):Value:=.agg #[.string x.nm,.string x.tl,.string x.ar]
def M3.le (x:M3) (B:Nat):Prop:=x.nm.size<=B/\x.tl.size<=B/\x.ar.size<=B
def plainB (c:UInt8):Bool:=decide (32<=(c.toNat:Int))&&decide ((c.toNat:Int)<=126)&&!((c.toNat:Int)==34)&&!((c.toNat:Int)==92)
theorem ret_str {a b:ByteArray} (h:a=b):Ending.returned (.string a)=.returned (.string b):=by rw [h]
def hexL:List UInt8:=[48,49,50,51,52,53,54,55,56,57,97,98,99,100,101,102]
def hexA:ByteArray:=⟨#[48,49,50,51,52,53,54,55,56,57,97,98,99,100,101,102]⟩
theorem hex_get (n:Nat) (h:n<hexA.size):hexA[n]=hexL.getD n 0:=by
 have h':n<16:=h;obtain rfl | rfl | rfl | rfl | rfl | rfl | rfl | rfl | rfl | rfl | rfl | rfl | rfl | rfl | rfl | rfl:n=0\/n=1\/n=2\/n=3\/n=4\/n=5\/n=6\/n=7\/n=8\/n=9\/n=10\/n=11\/n=12\/n=13\/n=14\/n=15:=om_
 all_goals rfl
def qb (c:UInt8):List UInt8:=if plainB c=true then [c] else [92,hexL.getD (c.toNat / 16) 0,hexL.getD (c.toNat % 16) 0]
def quoteL (l:List UInt8):List UInt8:=34::(l.flatMap qb++[34])
theorem qb_len (c:UInt8):(qb c).length<=3:=by unfold qb;split <;> simp
theorem flat_len (l:List UInt8):(l.flatMap qb).length<=3*l.length:=by
 induction l with
 | nil=>simp
 | cons c l ih=>have:=qb_len c;simp only [List.flatMap_cons,List.length_append,List.length_cons];omega
theorem cells_snoc (l r:List UInt8):Lib.byteCells (l++r)=Lib.byteCells l++Lib.byteCells r:=by simp [Lib.byteCells]
theorem cells_len (l:List UInt8):(Lib.byteCells l).length=l.length:=by simp [Lib.byteCells]
end Go.Proofs.YtlckdgjfniglfaaGreatDoor
