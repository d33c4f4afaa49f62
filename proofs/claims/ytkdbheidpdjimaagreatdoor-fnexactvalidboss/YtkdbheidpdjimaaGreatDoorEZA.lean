import Derived.Test.YtkdbheidpdjimaaGreatDoorD5
import Derived.Laws.BitsAllLaws
import Derived.Deep.RegionLaw
import Derived.Laws.Cover1
set_option linter.unusedVariables false
set_option maxRecDepth 100000
set_option maxHeartbeats 8000000
namespace Go.Proofs.YtkdbheidpdjimaaGreatDoor
open Proofs.Tryz Go.RowKit
variable {w w':World} {b n:Nat} {a:OA}
structure M3 where
 nm:BY
 tl:BY
 ar:BY
def H_:M3:=⟨⟨#[]⟩,⟨#[]⟩,⟨#[]⟩⟩
def M3.v (x:M3):Value:=.agg #[.string x.nm,.string x.tl,.string x.ar]
def M3.le (x:M3) (B:Nat):Prop:=x.nm.size<=B/\x.tl.size<=B/\x.ar.size<=B
def N_ (c:UInt8):Bool:=decide (32<=(c.toNat:Int))&&decide ((c.toNat:Int)<=126)&&!((c.toNat:Int)==34)&&!((c.toNat:Int)==92)
theorem dm {a b:BY} (h:a=b):Ending.returned (.string a)=.returned (.string b):=by rw [h]
def hexL:List UInt8:=[48,49,50,51,52,53,54,55,56,57,97,98,99,100,101,102]
def JG:BY:=⟨#[48,49,50,51,52,53,54,55,56,57,97,98,99,100,101,102]⟩
theorem SK (n:Nat) (h:n<JG.size):JG[n]=hexL.getD n 0:=by
 have h':n<16:=h;obtain rfl | rfl | rfl | rfl | rfl | rfl | rfl | rfl | rfl | rfl | rfl | rfl | rfl | rfl | rfl | rfl:n=0\/n=1\/n=2\/n=3\/n=4\/n=5\/n=6\/n=7\/n=8\/n=9\/n=10\/n=11\/n=12\/n=13\/n=14\/n=15:=O0
 all_goals rfl
def qb (c:UInt8):List UInt8:=if N_ c=true then [c] else [92,hexL.getD (c.toNat / 16) 0,hexL.getD (c.toNat % 16) 0]
def X5 (l:List UInt8):List UInt8:=34::(l.flatMap qb++[34])
theorem uY (c:UInt8):(qb c).length<=3:=by unfold qb;split <;> simp
theorem yt (l:List UInt8):(l.flatMap qb).length<=3*l.length:=by
 induction l with
 | nil=>simp
 | cons c l ih=>have:=uY c;simp only [Pg,N9,A_];omega
theorem T_ (l r:List UInt8):Lib.byteCells (l++r)=Lib.byteCells l++Lib.byteCells r:=by simp [Lib.byteCells]
theorem Ap (l:List UInt8):(Lib.byteCells l).length=l.length:=by simp [Lib.byteCells]
theorem Zi {P:Program} {ops:Array Oper} {o:Oper} {a:Act} {K:Act->World->Prop} {Q:Exit->Act->World->Prop} {E:Prop}
 (r:o.guard=none) (s x:Operand) (t:TypeId) (p:o.op=Op.call { callee:=Callee.builtin Builtin.append,args:=#[s,x],argTypes:=#[t,t] })
 (base:Nat) (e:TypeId) (i:TypeInfo) (z:Value) (size bytes:Nat) (h1:P.underlying t=some (.slice e)) (h2:P.info? e=some i) (H:i.zero=some z) (F:i.size=size) (D:i.bytes=bytes) (C:z.cells.size=size) (B:0<size)
 (v:Value) (n:Nat) (xs:List Value) (h:a.eval s=v) (l:w.ownsRow base e size v n xs)
 (d:Addr) (m c:Nat) (b:List Value) (hx:a.eval x=.slice (some d) m c) (q:b.length=m*size) (hc:∀ j u,b[j]?=some u->w.cell? (d.add j)=some u) (I:∀ u∈b,u.oneCell'=true)
 (L:n+m<=maxLen) (J:(n+m)*bytes<=140737488355328) (y:base<=w.heap.size)
 (A:∀ v' w',w'.ownsRow base e size v' (n+m) (xs++b)->w.grownBy w' v.ownBlock->K (a.put o.dst v') w'):
 if Region.wanted o (yielded ops a.tmps)=true then Oper.wp P o a w K Q else E:=by
 have hw:Region.wanted o (yielded ops a.tmps)=true:=by simp [Region.wanted,r]
 rw [G8 hw];obtain ⟨v',w',k,g,f,_⟩:=run_append_own (P:=P) w base t o.type e i z size bytes h1 h2 H F D C B v n xs l d m c b q hc I L J y;unfold Oper.wp;simp [execOp,p,resolve,invoke,builtin,h,hx,k,Result.andThen];exact A v' w' g f
theorem XQ {base:Nat} {v:Value} {l:List UInt8} (h:w.ownsRow base 5 1 v n (Lib.byteCells l)) (hn:0<n):(convert 243 9 v).run prog w=.ok (.string ⟨l.toArray⟩) w:=by
 have c:=h;obtain ⟨h1,h2⟩:=h;rcases h2 with ⟨_,h0⟩ | ⟨g,d,cur,rfl,hg,hh,_⟩
 · omega
 · have hl:l.length=n:=by rw [Ap] at h1;omega
   have:=run_convert_bytes_arg (P:=prog) w 243 5 underlying243 underlying5 g 0 n d (l.map fun b=>(b.toNat:Int)) (by simpa using hl) (fun i hi=>by
    rw [E8,c.cellAt i O0];have a:i<l.length:=O0;simp [Lib.byteCells,a]) 9 underlying9
   rw [this];have e:l.map ((fun n:Int=>UInt8.ofNat n.toNat)∘fun b=>(b.toNat:Int))=l:=(Wu (fun b _=>I4)).trans (WC l);simp only [strOfNums,xu,e]
theorem VO {c:UInt8} (h:¬ N_ c=true):(c.toNat:Int)<32\/126<(c.toNat:Int)\/((32:Int)<=(c.toNat:Int)/\(c.toNat:Int)<=126/\((c.toNat:Int) !=34)=false)\/((32:Int)<=(c.toNat:Int)/\(c.toNat:Int)<=126/\((c.toNat:Int) !=34)=true/\((c.toNat:Int) !=92)=false):=by
 unfold N_ at h;simp only [Fa,Fe,nI,n_] at h;simp only [bne_eq_false_iff_eq,Nq];omega
theorem SG (c:UInt8):IntKind.u8.wrap ((c.toNat:Int) / 16)=(c.toNat:Int) / 16:=by
 have:=c.toNat_lt;simp [IntKind.wrap,IntKind.signed,IntKind.bits];omega
theorem row3 (w:World) (x y z:Value) (t:TypeId):∀ j u,[x,y,z][j]?=some u->(w.alloc (.cells #[x,y,z] t)).drew.cell? ((⟨w.heap.size,0,none⟩:Addr).add j)=some u:=by
 intro j u h
 match j,h with
 | 0,h=>simp at h;subst h;simp [Addr.add]
 | 1,h=>simp at h;subst h;simp [Addr.add]
 | 2,h=>simp at h;subst h;simp [Addr.add]
def Ff (x:M3):Bool:=o6 x.nm.data.toList&&o6 x.tl.data.toList&&decide ((x.ar.size:Int)<=300)
theorem EZ (x:M3) (w:World) (c:x.le 1048700):
 Calls prog 205 #[.agg #[.string x.nm,.string x.tl,.string x.ar]] w fun e w'=>e=.returned (.bool (Ff x))/\Bw w w':=by
 have a:Hid (Ff x=(o6 x.nm.data.toList&&o6 x.tl.data.toList&&decide ((x.ar.size:Int)<=300))):=rfl;obtain ⟨h1,h2,h3⟩:=c;go_enter func205,ntmps205
 go_wp2_with fail
 refine (c23 _ _ h1).mono ?_;rintro e b ⟨rfl,rfl⟩;cases hn:o6 x.nm.data.toList
 · rw [hn] at a;go_wp2
   all_goals go_ret
   all_goals exact ⟨J9 (by rw [a.out];simp),o7⟩
 · rw [hn] at a
   go_wp2_with fail
   refine (c23 _ _ h2).mono ?_;rintro e b ⟨rfl,rfl⟩;cases hm:o6 x.tl.data.toList
   all_goals
    rw [hm] at a;go_wp2
    all_goals go_ret
    all_goals exact ⟨J9 (by rw [a.out];simp),o7⟩
theorem ZT (x:M3) (w:World) (c:x.le 1048700):
 Calls prog 177 #[.agg #[.string x.nm,.string x.tl,.string x.ar]] w fun e w'=>e=.returned (.bool (Ff x))/\Bw w w':=by
 have a:Hid (Ff x=(o6 x.nm.data.toList&&o6 x.tl.data.toList&&decide ((x.ar.size:Int)<=300))):=rfl;obtain ⟨h1,h2,h3⟩:=c;go_enter func177,ntmps177
 go_wp2_with fail
 refine (QN _ _ h1).mono ?_;rintro e b ⟨rfl,rfl⟩;cases hn:o6 x.nm.data.toList
 · rw [hn] at a;go_wp2
   all_goals go_ret
   all_goals exact ⟨J9 (by rw [a.out];simp),o7⟩
 · rw [hn] at a
   go_wp2_with fail
   refine (QN _ _ h2).mono ?_;rintro e b ⟨rfl,rfl⟩;cases hm:o6 x.tl.data.toList
   all_goals
    rw [hm] at a;go_wp2
    all_goals go_ret
    all_goals exact ⟨J9 (by rw [a.out];simp),o7⟩
theorem CJ {x:M3} {v:Bool} (hv:Ff x=v) (w:World) (a:x.le 1048700):
 Calls prog 177 #[.agg #[.string x.nm,.string x.tl,.string x.ar]] w fun e w'=>e=.returned (.bool v)/\Bw w w':=hv▸ZT x w a
def Bd (x:M3):List UInt8:=x.nm.data.toList++[32]++x.tl.data.toList++[32]++X5 x.ar.data.toList
structure L4 where
 has:Bool
 nm:BY
 cd:Int
 tx:BY
def O_:L4:=⟨false,⟨#[]⟩,0,⟨#[]⟩⟩
def L4.le (x:L4) (B:Nat):Prop:=x.nm.size<=B/\x.tx.size<=B
def I9 (w:World) (a:OA) (is:List L4):Prop:=
 is=[]\/∃ b off,a=some ⟨b,off,none⟩/\b<w.heap.size/\∀ i,i<is.length->w.cell? ⟨b,off+i*4,none⟩=some (.bool (is.getD i O_).has)/\w.cell? ⟨b,off+i*4+1,none⟩=some (.string (is.getD i O_).nm)/\w.cell? ⟨b,off+i*4+2,none⟩=some (.int .i64 (is.getD i O_).cd)/\w.cell? ⟨b,off+i*4+3,none⟩=some (.string (is.getD i O_).tx)
theorem Og {is:List L4} (h:I9 w a is):∃ b off,(is=[]\/(a=some ⟨b,off,none⟩/\b<w.heap.size/\∀ i,i<is.length->w.cell? ⟨b,off+i*4,none⟩=some (.bool (is.getD i O_).has)/\w.cell? ⟨b,off+i*4+1,none⟩=some (.string (is.getD i O_).nm)/\w.cell? ⟨b,off+i*4+2,none⟩=some (.int .i64 (is.getD i O_).cd)/\w.cell? ⟨b,off+i*4+3,none⟩=some (.string (is.getD i O_).tx))):=by
 rcases h with h | ⟨b,off,h⟩
 · exact ⟨0,0,.inl h⟩
 · exact ⟨b,off,.inr h⟩
theorem N7 {is:List L4} (h:I9 w a is) (c:Bw w w'):I9 w' a is:=by
 rcases h with h | ⟨b,off,h1,h2,e⟩
 · exact .inl h
 · exact .inr ⟨b,off,h1,m_ h2 c.size,fun i d=>by rw [c.cell (by exact h2),c.cell (by exact h2),c.cell (by exact h2),c.cell (by exact h2)];exact e i d⟩
structure But (b:Nat) (w w':World):Prop where
 os:w'.os=w.os
 tape:w'.tape=w.tape
 output:w'.output=w.output
 size:w.heap.size<=w'.heap.size
 block:∀ k,k<w.heap.size->k≠b->w'.heap[k]?=w.heap[k]?
theorem But.refl (b:Nat) (w:World):But b w w:=⟨rfl,rfl,rfl,Y9 _,fun _ _ _=>rfl⟩
theorem But.trans {u v:World} (h:But b u v) (k:But b v w):But b u w:=
 ⟨k.os.trans h.os,k.tape.trans h.tape,k.output.trans h.output,Q7 h.size k.size,fun i c a=>(k.block i (m_ c h.size) a).trans (h.block i c a)⟩
theorem But.of_below (h:Bw w w'):But b w w':=⟨h.os,h.tape,h.output,h.size,fun k a _=>h.block k a⟩
theorem But.below {B:Nat} (h:But b w w') (hB:B<=b) (hz:B<=w.heap.size):Below B w w':=⟨h.os,h.tape,h.output,h.size,fun k hk=>h.block k O0 O0⟩
theorem But.setCell (h:But b w w') (j:Nat) (v:Value):But b w (w'.setCell ⟨b,j,none⟩ v):=by
 have k:=(Z4 b w').setCell (p:=(aA b j)) x9 v;refine ⟨k.os.trans h.os,k.tape.trans h.tape,k.output.trans h.output,Q7 h.size k.size,fun i c a=>?_⟩;rw [<- h.block i c a];exact Fb _ _ _ _ a
theorem But.cell (h:But b w w') {p:Addr} (a:p.block<w.heap.size) (c:p.block≠b):w'.cell? p=w.cell? p:=by
 unfold World.cell?;rw [h.block p.block a c]
theorem Zc (a b:List UInt8):Y2 a++Y2 b=Y2 (a++b):=by apply qg;simp [Y2]
def dA (w:World) (b n:Nat):Prop:=b<w.heap.size/\(∀ j,j<n*4->∃ v,w.cell? ⟨b,j,none⟩=some v)/\∀ j,w.frozen? ⟨b,j,none⟩=false
theorem dA.below (h:dA w b n) (a:Bw w w'):dA w' b n:=
 ⟨m_ h.1 a.size,fun j c=>by rw [a.cell (by exact h.1)];exact h.2.1 j c,fun j=>by rw [a.frozen (by exact h.1)];exact h.2.2 j⟩
theorem dA.set {j:Nat} {v:Value} (h:dA w b n) (hj:j<n*4):dA (w.setCell ⟨b,j,none⟩ v) b n:=by
 refine ⟨by simpa using h.1,fun i a=>?_,fun i=>by have:=h.2.2 i;simpa using this⟩;by_cases e:i=j
 · subst e;obtain ⟨x,hx⟩:=h.2.1 i a;exact ⟨v,Bf _ _ _ hx⟩
 · rw [La _ _ _ _ (Xd (Ne.symm e))];exact h.2.1 i a
