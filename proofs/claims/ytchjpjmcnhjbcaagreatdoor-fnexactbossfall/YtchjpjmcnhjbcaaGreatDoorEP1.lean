import Derived.Test.YtchjpjmcnhjbcaaGreatDoorD0
set_option linter.unusedVariables false
set_option maxHeartbeats 8000000
set_option maxRecDepth 100000
namespace Go.Proofs.YtchjpjmcnhjbcaaGreatDoor
open Proofs.Tryz Go.RowKit
variable {w w':World} {a:OA}
structure G3 where
 nm:Bool
 tl:BY
 ar:BY
def Vg:G3:=⟨false,⟨#[]⟩,⟨#[]⟩⟩
def G3.v (x:G3):Value:=.agg #[.bool x.nm,.string x.tl,.string x.ar]
def G3.le (x:G3) (B:Nat):Prop:=x.tl.size<=B/\x.ar.size<=B
def R_ (w:World) (a:OA) (is:List G3):Prop:=
 is=[]\/∃ b off,a=some ⟨b,off,none⟩/\b<w.heap.size/\∀ i,i<is.length->w.cell? ⟨b,off+i*3,none⟩=some (.bool (is.getD i Vg).nm)/\w.cell? ⟨b,off+i*3+1,none⟩=some (.string (is.getD i Vg).tl)/\w.cell? ⟨b,off+i*3+2,none⟩=some (.string (is.getD i Vg).ar)
theorem Ph {is:List G3} (h:R_ w a is):∃ b off,(is=[]\/(a=some ⟨b,off,none⟩/\b<w.heap.size/\∀ i,i<is.length->w.cell? ⟨b,off+i*3,none⟩=some (.bool (is.getD i Vg).nm)/\w.cell? ⟨b,off+i*3+1,none⟩=some (.string (is.getD i Vg).tl)/\w.cell? ⟨b,off+i*3+2,none⟩=some (.string (is.getD i Vg).ar))):=by
 rcases h with h | ⟨b,off,h⟩
 · exact ⟨0,0,.inl h⟩
 · exact ⟨b,off,.inr h⟩
theorem P8 {is:List G3} (h:R_ w a is) (c:Bw w w'):R_ w' a is:=by
 rcases h with h | ⟨b,off,h1,h2,e⟩
 · exact .inl h
 · exact .inr ⟨b,off,h1,O9 h2 c.size,fun i d=>by rw [c.cell (by exact h2),c.cell (by exact h2),c.cell (by exact h2)];exact e i d⟩
theorem Gp (u:World) (B j:Nat) (a b v2 x0 x1 x2:Value) (h0:u.cell? ⟨B,j,none⟩=some x0) (h1:u.cell? ⟨B,j+1,none⟩=some x1) (h2:u.cell? ⟨B,j+2,none⟩=some x2):
 (((u.setCell ⟨B,j,none⟩ a).setCell ⟨B,j+1,none⟩ b).setCell ⟨B,j+2,none⟩ v2).cell? ⟨B,j,none⟩=some a/\(((u.setCell ⟨B,j,none⟩ a).setCell ⟨B,j+1,none⟩ b).setCell ⟨B,j+2,none⟩ v2).cell? ⟨B,j+1,none⟩=some b/\(((u.setCell ⟨B,j,none⟩ a).setCell ⟨B,j+1,none⟩ b).setCell ⟨B,j+2,none⟩ v2).cell? ⟨B,j+2,none⟩=some v2:=by
 have c:(u.setCell ⟨B,j,none⟩ a).cell? ⟨B,j+1,none⟩=some x1:=by rw [Na _ _ _ _ (Ed O0)];exact h1
 have a2:((u.setCell ⟨B,j,none⟩ a).setCell ⟨B,j+1,none⟩ b).cell? ⟨B,j+2,none⟩=some x2:=by
  rw [Na _ _ _ _ (Ed O0),Na _ _ _ _ (Ed O0)];exact h2
 refine ⟨?_,?_,jg _ _ _ a2⟩
 · rw [Na _ _ _ _ (Ed O0),Na _ _ _ _ (Ed O0)];exact jg _ _ _ h0
 · rw [Na _ _ _ _ (Ed O0)];exact jg _ _ _ c
theorem a2I (x:G3) (w:World):
 Calls prog 237 #[.agg #[.bool x.nm,.string x.tl,.string x.ar],.agg #[.bool x.nm,.string x.tl,.string x.ar]] w fun e w'=>e=.returned (.bool true)/\Bw w w':=by
 go_enter func237,ntmps237;go_wp2;go_ret;exact ⟨rfl,P6.alloc X4 _⟩
theorem a3I (a q:OA) (u t:Nat) (is:List G3) (w:World) (hl:is.length<=1048576) (o:R_ w a is) (n:R_ w q is):
 Calls prog 180 #[.slice a is.length u,.slice q is.length t] w fun e w'=>e=.returned (.bool true)/\Bw w w':=by
 obtain ⟨b,off,hc⟩:=Ph o;have y:=U0 hc;clear hc o;obtain ⟨b',h,m⟩:=Ph n;have v:=U0 m;clear m n;go_enter func180,ntmps180
 go_wp2_with fail
 go_loopw [5] (fun i wr=>∃ (k:Nat),k<=is.length/\i=.int .i64 k/\Below w.heap.size w wr) (fun i _=>is.length - (RowKit.intOf i).toNat)
 case atStart=>exact ⟨0,J4 _,rfl,Z4 _ _⟩
 case round=>
  obtain ⟨k,hk,rfl,c⟩:=hrel;by_cases d:k<is.length
  · obtain ⟨ha,l,g⟩:=Cc y.out d;obtain ⟨s,j,f⟩:=Cc v.out d;subst ha;subst s;have g0:=(c.cell (p:=⟨b,off+k*3,none⟩) l).trans (g k d).1;have g1:=(c.cell (p:=⟨b,off+k*3+1,none⟩) l).trans (g k d).2.1;have g2:=(c.cell (p:=⟨b,off+k*3+2,none⟩) l).trans (g k d).2.2;have g0':=(c.cell (p:=⟨b',h+k*3,none⟩) j).trans (f k d).1;have g1':=(c.cell (p:=⟨b',h+k*3+1,none⟩) j).trans (f k d).2.1;have g2':=(c.cell (p:=⟨b',h+k*3+2,none⟩) j).trans (f k d).2.2;generalize is.getD k Vg=x at*;clear g f
    go_wp2_with fail
    go_region_with (go_at_call 237;refine (a2I x _).mono ?_;rintro e w1 ⟨rfl,r⟩)
    all_goals go_wp2
    all_goals go_roundw
    all_goals first
     | exact ⟨k+1,O0,by go_num,(c.drew).trans (r.mono c.size)⟩
     | (simp [RowKit.intOf];omega)
  · go_wp2;go_ret;exact ⟨rfl,c⟩
structure R3 where
 key:BY
 gs:List G3
 out:BY
def f_:R3:=⟨⟨#[]⟩,[],⟨#[]⟩⟩
def R3.le (x:R3) (B:Nat):Prop:=x.key.size<=B/\x.gs.length<=B/\(∀ i,(x.gs.getD i Vg).le B)/\x.out.size<=B
def BB (w:World) (b o:Nat) (x:R3):Prop:=∃ ai ci,w.cell? ⟨b,o,none⟩=some (.string x.key)/\w.cell? ⟨b,o+1,none⟩=some (.slice ai x.gs.length ci)/\w.cell? ⟨b,o+2,none⟩=some (.string x.out)/\R_ w ai x.gs
def ug (w:World) (a:OA) (is:List R3):Prop:=is=[]\/∃ b off,a=some ⟨b,off,none⟩/\b<w.heap.size/\∀ i,i<is.length->BB w b (off+i*3) (is.getD i f_)
theorem BB.below {b o:Nat} {x:R3} (h:BB w b o x) (c:b<w.heap.size) (a:Bw w w'):BB w' b o x:=by
 obtain ⟨f,e,h0,h1,h2,d⟩:=h;exact ⟨f,e,(a.cell (by exact c)).trans h0,(a.cell (by exact c)).trans h1,(a.cell (by exact c)).trans h2,P8 d a⟩
theorem Ie {is:List R3} (h:ug w a is):∃ b off,(is=[]\/(a=some ⟨b,off,none⟩/\b<w.heap.size/\∀ i,i<is.length->BB w b (off+i*3) (is.getD i f_))):=by
 rcases h with h | ⟨b,off,h⟩
 · exact ⟨0,0,.inl h⟩
 · exact ⟨b,off,.inr h⟩
theorem dh {is:List R3} (h:ug w a is) (c:Bw w w'):ug w' a is:=by
 rcases h with h | ⟨b,off,h1,h2,e⟩
 · exact .inl h
 · exact .inr ⟨b,off,h1,O9 h2 c.size,fun i d=>(e i d).below h2 c⟩
def Px (is:List R3):Nat:=(is.map fun x=>x.gs.length).sum
theorem xM {is:List R3} {k:Nat} (h:k<is.length):Px (is.take (k+1))=Px (is.take k)+(is.getD k f_).gs.length:=by
 unfold Px;rw [Sr,Og,List.sum_append];simp [List.getD,Z8 h]
theorem a3X (x:R3) (b a:OA) (g f:Nat) (w:World) (hl:x.gs.length<=1048576) (j:R_ w b x.gs) (i:R_ w a x.gs):
 Calls prog 129 #[.agg #[.string x.key,.slice b x.gs.length g,.string x.out],.agg #[.string x.key,.slice a x.gs.length f,.string x.out]] w fun e w'=>e=.returned (.bool true)/\Bw w w':=by
 have d:Bw w ((w.alloc (.cells #[vS x.key,vL b x.gs.length g,vS x.out] 145)).alloc (.cells #[vS x.key,vL a x.gs.length f,vS x.out] 145)):=P6.alloc X4 _;have k:=a3I b a g f x.gs _ hl (P8 j d) (P8 i d);go_enter func129,ntmps129
 go_wp2_with fail
 refine k.mono ?_;rintro e h ⟨rfl,c⟩;have l:=d.trans (c.mono U7);have g2:h.cell? (aW w 2)=some (vS x.out):=by rw [c.cell U7];simp [go_sem]
 have g3:h.cell? (aA (w.heap.size+1) 2)=some (vS x.out):=by rw [c.cell X4];simp [go_sem]
 clear k j i;go_wp2;go_ret;exact ⟨rfl,l⟩
structure St where
 wd:Int
 ts:LB
 rs:List R3
def St.le (s:St) (B:Nat):Prop:=(s.ts.length<=B/\∀ i,(s.ts.getD i ByteArray.empty).size<=B)/\s.rs.length<=B/\∀ i,(s.rs.getD i f_).le B
def Ig (w:World) (ta ra:OA) (s:St):Prop:=P7 w ta s.ts/\ug w ra s.rs
theorem Ig.below {ta ra:OA} {s:St} (h:Ig w ta ra s) (a:Bw w w'):Ig w' ta ra s:=⟨U5 h.1 a,dh h.2 a⟩
structure M3 where
 nm:BY
 tl:BY
 ar:BY
def D_:M3:=⟨⟨#[]⟩,⟨#[]⟩,⟨#[]⟩⟩
def M3.v (x:M3):Value:=.agg #[.string x.nm,.string x.tl,.string x.ar]
def M3.le (x:M3) (B:Nat):Prop:=x.nm.size<=B/\x.tl.size<=B/\x.ar.size<=B
