import Derived.Test.YthfmmimmfcnhmaaGreatDoorZ03
set_option maxHeartbeats 8000000
namespace Go.Proofs.YthfmmimmfcnhmaaGreatDoor.M
open Go.RowKit
structure L4 where
 has:Bool
 nm:ByteArray
 cd:Int
 tx:ByteArray
def l4z:L4:=⟨false,⟨#[]⟩,0,⟨#[]⟩⟩
def L4.le (x:L4) (B:Nat):Prop:=x.nm.size<=B/\x.tx.size<=B
def LksAt (w:World) (a:Option Addr) (is:List L4):Prop:=
 is=[]\/∃ b off,a=some ⟨b,off,none⟩/\b<w.heap.size/\∀ i,i<is.length->w.cell? ⟨b,off+i*4,none⟩=some (.bool (is.getD i l4z).has)/\w.cell? ⟨b,off+i*4+1,none⟩=some (.string (is.getD i l4z).nm)/\w.cell? ⟨b,off+i*4+2,none⟩=some (.int .i64 (is.getD i l4z).cd)/\w.cell? ⟨b,off+i*4+3,none⟩=some (.string (is.getD i l4z).tx)
theorem c51 (cd:Int) (tx:ByteArray) (w:World):
 Calls Tryz.prog 51 #[.agg #[.int .i64 cd,.string tx],.agg #[.int .i64 cd,.string tx]] w fun e w'=>e=.returned (.bool true)/\Below w.heap.size w w':=by
 go_enter Tryz.func51,Tryz.ntmps51
 go_wp2
 go_ret
 exact ⟨rfl,((Below.refl _ _).alloc (Nat.le_refl _) _).alloc (by simp) _⟩
theorem lks_some {w:World} {a:Option Addr} {is:List L4} (h:LksAt w a is):∃ b off,(is=[]\/(a=some ⟨b,off,none⟩/\b<w.heap.size/\∀ i,i<is.length->w.cell? ⟨b,off+i*4,none⟩=some (.bool (is.getD i l4z).has)/\w.cell? ⟨b,off+i*4+1,none⟩=some (.string (is.getD i l4z).nm)/\w.cell? ⟨b,off+i*4+2,none⟩=some (.int .i64 (is.getD i l4z).cd)/\w.cell? ⟨b,off+i*4+3,none⟩=some (.string (is.getD i l4z).tx))):=by
 rcases h with h | ⟨b,off,h⟩
 · exact ⟨0,0,.inl h⟩
 exact ⟨b,off,.inr h⟩
theorem lks_below {w w':World} {a:Option Addr} {is:List L4} (h:LksAt w a is) (hb:Below w.heap.size w w'):LksAt w' a is:=by
 rcases h with h | ⟨b,off,h1,h2,h3⟩
 · exact .inl h
 exact .inr ⟨b,off,h1,Nat.lt_of_lt_of_le h2 hb.size,fun i hi=>by rw [hb.cell (by exact h2),hb.cell (by exact h2),hb.cell (by exact h2),hb.cell (by exact h2)];exact h3 i hi⟩
theorem lks_set {w:World} {a:Option Addr} {is:List L4} {q:Addr} {v:Value} (h:LksAt w a is) (hq:∀ b off,a=some ⟨b,off,none⟩->is≠[]->q.block≠b):LksAt (w.setCell q v) a is:=by
 rcases Nat.eq_zero_or_pos is.length with e | e
 · exact .inl (List.eq_nil_of_length_eq_zero e)
 have hn:is≠[]:=fun c=>by rw [c] at e;simp at e
 rcases h with h | ⟨b,off,h1,h2,h3⟩
 · exact absurd h hn
 have hne:∀ j,q≠⟨b,j,none⟩:=fun j e=>hq b off h1 hn (by rw [e])
 refine .inr ⟨b,off,h1,by simpa using h2,fun i hi=>?_⟩
 rw [World.cell?_setCell_other _ _ _ _ (hne _),World.cell?_setCell_other _ _ _ _ (hne _),World.cell?_setCell_other _ _ _ _ (hne _),World.cell?_setCell_other _ _ _ _ (hne _)]
 exact h3 i hi
def BlkAt (u:World) (B:Nat) (vs:List Value):Prop:=∀ j v,vs[j]?=some v->u.cell? ⟨B,j,none⟩=some v
def OpnAt (u:World) (B:Nat):Prop:=∀ j,u.frozen? ⟨B,j,none⟩=false
theorem blk_new (w:World) (vs:List Value) (t:TypeId):BlkAt (w.alloc (.cells vs.toArray t)) w.heap.size vs:=fun j v h=>by
 simp [go_sem,h]
theorem opn_new (w:World) (a:Array Value) (t:TypeId):OpnAt (w.alloc (.cells a t)) w.heap.size:=fun j=>by simp [go_sem]
theorem BlkAt.below {u u':World} {B N:Nat} {vs:List Value} (h:BlkAt u B vs) (hb:Below N u u') (hN:B<N):BlkAt u' B vs:=fun j v e=>(hb.cell (p:=⟨B,j,none⟩) hN).trans (h j v e)
theorem OpnAt.below {u u':World} {B N:Nat} (h:OpnAt u B) (hb:Below N u u') (hN:B<N):OpnAt u' B:=fun j=>(hb.frozen (p:=⟨B,j,none⟩) hN).trans (h j)
theorem BlkAt.set {u:World} {B:Nat} {vs:List Value} (h:BlkAt u B vs) (j:Nat) (v:Value) (hj:j<vs.length):BlkAt (u.setCell ⟨B,j,none⟩ v) B (vs.set j v):=fun i x e=>by
 rcases Nat.decEq i j with hne | rfl
 · rw [World.cell?_setCell_other _ _ _ _ (adr_ne (fun e=>hne e.symm))]
   rw [List.getElem?_set_ne (fun h=>hne h.symm)] at e
   exact h i x e
 rw [List.getElem?_set_self hj] at e
 obtain rfl:=Option.some.inj e
 exact World.cell?_setCell_same _ _ _ (h i _ (List.getElem?_eq_getElem hj))
theorem OpnAt.set {u:World} {B:Nat} (h:OpnAt u B) (p:Addr) (v:Value):OpnAt (u.setCell p v) B:=fun j=>by simpa using h j
def fill (u:World) (B:Nat):Nat->List Value->World
 | _,[]=>u
 | j,v::vs=>fill (u.setCell ⟨B,j,none⟩ v) B (j+1) vs
theorem below_fill {B N:Nat} {w:World} (hN:N<=B) (vs:List Value):∀ {u:World} (j:Nat),Below N w u->Below N w (fill u B j vs):=by
 induction vs with
 | nil=>intro u j h;exact h
 | cons v vs ih=>intro u j h;exact ih (j+1) (h.setCell (p:=⟨B,j,none⟩) hN v)
structure D8 where
 nm:ByteArray
 made:Bool
 km:M3
 ls:List L4
 cd:Int
 tx:ByteArray
def D8.le (x:D8) (B:Nat):Prop:=x.nm.size<=B/\x.km.le B/\(x.ls.length<=B/\∀ i,(x.ls.getD i l4z).le B)/\x.tx.size<=B
structure T6 where
 over:Bool
 cd:Int
 tx:ByteArray
 has:Bool
 nm:ByteArray
 st:Int
def T6.le (x:T6) (B:Nat):Prop:=x.tx.size<=B/\x.nm.size<=B
structure G16 where
 kd:Int
 to:Int
 fr:Int
 ep:Int
 ed:Int
 km:M3
 ls:List L4
 ct:Int
 tn:T6
def G16.le (x:G16) (B:Nat):Prop:=x.km.le B/\(x.ls.length<=B/\∀ i,(x.ls.getD i l4z).le B)/\x.tn.le B
end Go.Proofs.YthfmmimmfcnhmaaGreatDoor.M
