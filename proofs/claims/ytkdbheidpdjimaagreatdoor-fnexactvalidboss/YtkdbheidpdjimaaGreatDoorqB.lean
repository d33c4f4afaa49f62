import Derived.Test.YtkdbheidpdjimaaGreatDooreJ7
import Derived.Deep.Cut
import Derived.Deep.CutRange
import Derived.Laws.CopyOwn
set_option linter.unusedVariables false
set_option maxHeartbeats 8000000
set_option maxRecDepth 100000
namespace Go.Proofs.YtkdbheidpdjimaaGreatDoor
open Proofs.Tryz Go.RowKit
def Df (w:World) (a:OA) (ss:List Int):Prop:=
 ss=[]\/∃ b off,a=some ⟨b,off,none⟩/\b<w.heap.size/\∀ i,i<ss.length->w.cell? ⟨b,off+i,none⟩=some (.int .i64 (ss.getD i 0))
theorem vg {w:World} {a:OA} {ss:List Int} (h:Df w a ss):∃ b off,(ss=[]\/(a=some ⟨b,off,none⟩/\b<w.heap.size/\∀ i,i<ss.length->w.cell? ⟨b,off+i,none⟩=some (.int .i64 (ss.getD i 0)))):=by
 rcases h with h | ⟨b,off,h⟩
 · exact ⟨0,0,.inl h⟩
 · exact ⟨b,off,.inr h⟩
theorem oh {w w':World} {a:OA} {ss:List Int} (h:Df w a ss) (c:Bw w w'):Df w' a ss:=by
 rcases h with h | ⟨b,off,h1,h2,e⟩
 · exact .inl h
 · exact .inr ⟨b,off,h1,m_ h2 c.size,fun i d=>by rw [c.cell (by exact h2)];exact e i d⟩
theorem mW:(prog.info? 3).map (fun i=>(i.zero,i.size,i.bytes))=some (some (.int .i64 0),1,8):=J3
theorem c30 (a:OA) (z:Nat) (ss:List Int) (w:World) (hl:ss.length<=1048576) (o:Df w a ss):
 Calls prog 30 #[.slice a ss.length z] w fun e w'=>(e=.returned (.slice (some ⟨w.heap.size,0,none⟩) ss.length ss.length)/\Df w' (some ⟨w.heap.size,0,none⟩) ss)/\Bw w w':=by
 obtain ⟨b,off,hc⟩:=vg o;have B:=U0 hc;clear hc o;obtain ⟨p,g,s,r,q⟩:=info_parts mW;have hmk:∀ u:World,(Instr.makeSlice 31 (vI (ss.length:Int)) (vI (ss.length:Int))).run prog u=
  .ok (vL (some ⟨u.heap.size,0,none⟩) ss.length ss.length) (u.alloc (.cells (madeCells #[vO] ss.length) 3)):=fun u=>by
  have h:=Vm (P:=prog) u 31 3 p vO underlying31 g s .i64 .i64 (ss.length:Int) (ss.length:Int) O0 (Ak _) (by rw [q];omega) O0;simpa [r,Value.cells] using h
 go_enter func30,ntmps30
 go_wp2_with fail
 go_loopw [4] (fun i wr=>∃ (k:Nat),k<=ss.length/\i=.int .i64 k/\Below w.heap.size w wr/\w.heap.size+1<=wr.heap.size/\(∀ j,wr.frozen? ⟨w.heap.size,j,none⟩=false)/\Hid (∀ j,j<k->wr.cell? ⟨w.heap.size,j,none⟩=some (.int .i64 (ss.getD j 0)))/\Hid (∀ j,k<=j->j<ss.length->wr.cell? ⟨w.heap.size,j,none⟩=some (.int .i64 0))) (fun i _=>ss.length - (intOf i).toNat)
 case atStart=>
  refine ⟨0,D5 _,rfl,o7,I4,fun j=>I4,fun j h=>absurd h (o9 _),fun j _ h=>?_⟩;have e:(madeCells #[Value.int .i64 0] ss.length)[j]?=some vO:=by
   rw [<- Array.getElem?_toList,toList_madeCells_one];simp [h]
  simp [e]
 case round=>
  obtain ⟨k,hk,rfl,d,t,l,m,f⟩:=hrel;by_cases c:k<ss.length
  · obtain ⟨ha,y,n⟩:=Nc B.out c;subst ha;have g0:=(d.cell (by exact y)).trans (n k c);have g1:=f.out k x9 c;have g2:=l k;generalize hx:ss.getD k 0=x at*;have A:=U0 hx;clear hx n;go_wp2;go_roundw
    case rel=>
     refine ⟨k+1,O0,by go_num,d.setCell I4 _,by simpa using t,fun j=>by rw [<- l j];simp,fun j hj=>?_,fun j h1 h2=>?_⟩
     · by_cases e:j=k
       · subst e;rw [A.out];exact Bf _ _ _ g1
       · rw [<- m.out j O0];exact La _ _ _ _ (by intro h;injection h with h1 h2;exact e h2.symm)
     · rw [<- f.out j O0 h2];exact La _ _ _ _ (by intro h;injection h with h3 h4;omega)
    case measure=>simp [intOf];omega
  · have v:Hid (Df wr (some ⟨w.heap.size,0,none⟩) ss):=.inr ⟨w.heap.size,0,rfl,O0,fun i g=>by rw [E8];exact m.out i O0⟩;go_wp2;go_ret;exact ⟨⟨rfl,v.out⟩,d⟩
theorem c46 (a l:OA) (o n:Nat) (ss:List Int) (w:World) (hl:ss.length<=1048576) (j:Df w a ss) (h:Df w l ss):
 Calls prog 46 #[.slice a ss.length o,.slice l ss.length n] w fun e w'=>e=.returned (.bool true)/\Bw w w':=by
 obtain ⟨b,off,hc⟩:=vg j;have q:=U0 hc;clear hc j;obtain ⟨b',off',g⟩:=vg h;have p:=U0 g;clear g h;go_enter func46,ntmps46
 go_wp2_with fail
 go_loopw [5] (fun i wr=>∃ (k nq:Nat),k<=ss.length/\i=.int .i64 k/\wr=w.drewN nq) (fun i _=>ss.length - (intOf i).toNat)
 case atStart=>exact ⟨0,0,D5 _,rfl,rfl⟩
 case round=>
  obtain ⟨k,nq,hk,rfl,rfl⟩:=hrel;by_cases c:k<ss.length
  · obtain ⟨ha,hbw,f⟩:=Nc q.out c;obtain ⟨m,a5N,d⟩:=Nc p.out c;subst ha;subst m;have g0:=f k c;have g1:=d k c;generalize ss.getD k 0=x at*;clear f d
    go_wp2_with fail
    go_quiet (fail)
    go_wp2;go_roundw
    case rel=>exact ⟨k+1,_,O0,by go_num,rfl⟩
    case measure=>simp [intOf];omega
  · go_wp2;go_ret;exact ⟨rfl,below_drewN _⟩
theorem c12 (a:OA) (b n:Nat) (l:Int) (w:World) (h0:0<=l) (h1:l<=1048576) (hn:n<=9223372036854775807):
 Calls prog 12 #[.slice a n b,.int .i64 l] w fun e w'=>(∃ r:Int,e=.returned (.int .i64 r)/\(0<=r->n<=1048576/\r<=l))/\w'=w:=by
 by_cases h:l<n
 · go_enter func12,ntmps12;go_wp2;go_ret;exact ⟨⟨-1,rfl,fun h=>O0⟩,rfl⟩
 · go_enter func12,ntmps12;go_wp2;go_ret;exact ⟨⟨_,rfl,fun h=>⟨O0,O0⟩⟩,rfl⟩
theorem c66 (n:Int) (w:World):
 Calls prog 66 #[.int .i64 n] w fun e w'=>e=.returned (.bool (decide (1<=n/\n<=4)))/\w'=w:=by
 by_cases h1:1<=n<;>by_cases h2:n<=4
 all_goals
  go_enter func66,ntmps66;go_wp2;go_ret;exact ⟨by simp [h1,h2],rfl⟩
def zs (z:List Value) (m:Nat):List Value:=(List.replicate m z).flatten
section
variable {z ys vs:List Value} {k n j b o:Nat} {w w':World} {cs:List Value}
theorem UI:(zs z n).length=n*z.length:=by
 unfold zs;simp
theorem eF:zs z (n+1)=z++zs z n:=by
 unfold zs;simp [List.replicate_succ]
theorem UQ:∀ (n j:Nat),j<n*z.length->(zs z n)[j]?=z[j % z.length]?
 | 0,j,h=>by simp at h
 | n+1,j,h=>by
  rw [eF];by_cases a:j<z.length
  · rw [I_ a,Nat.mod_eq_of_lt a]
  rw [Cf O0,UQ n (j - z.length) (by rw [Wl] at h;omega),<- Nat.mod_eq_sub_mod O0]
theorem Am (z:List Value) (n:Nat):madeCells z.toArray (n*z.length)=(zs z n).toArray:=by
 apply Array.ext
 · simp [size_madeCells,UI]
 intro i h1 h2;have a:i<n*z.length:=by simpa [size_madeCells] using h1
 have b:i % z.length<z.length:=Nat.mod_lt _ (by rcases Iu z.length with h|h;(rw [h] at a;omega);exact h);have e:=UQ (z:=z) n i a;have l:i<(zs z n).length:=by rw [UI];exact a
 rw [y9 l,y9 b] at e;injection e with e;simp [madeCells,b,e]
theorem au (a:ys.length=k*z.length) (hv:vs.length=z.length) (hk:k<n):Zp (ys++zs z (n - k)) (k*z.length) vs=(ys++vs)++zs z (n - (k+1)):=by
 unfold Zp;rw [show n - k=(n - (k+1))+1 by omega,eF,<- a,hv];simp [List.drop_append]
theorem Du (a:ys.length=k*z.length) (hv:vs.length=z.length) (hk:k<n):k*z.length+vs.length<=(ys++zs z (n - k)).length:=by
 rw [N9,UI,a,hv,show n - k=(n - (k+1))+1 by omega,Wl];omega
def Bc (w:World) (b o:Nat) (cs:List Value):Prop:=∀ q v,cs[q]?=some v->w.cell? ⟨b,o+q,none⟩=some v
theorem Bc.below (h:Bc w b o cs) (hl:b<w.heap.size) (a:Bw w w'):Bc w' b o cs:=fun q v e=>(a.cell (by exact hl)).trans (h q v e)
theorem qH {t:TypeId} (h:Cl w b t ys) (a:∀ q v,cs[q]?=some v->ys[o+q]?=some v):Bc w b o cs:=fun q v e=>(h.cell _).trans (a q v e)
end
def TA {α:Type} (w:World) (a:OA) (is:List α) (d:α) (n:Nat) (P:World->Nat->Nat->α->Prop):Prop:=is=[]\/∃ b off,a=some ⟨b,off,none⟩/\b<w.heap.size/\∀ i,i<is.length->P w b (off+i*n) (is.getD i d)
section
variable {α:Type} {w w':World} {a:OA} {is:List α} {d:α} {n:Nat} {P:World->Nat->Nat->α->Prop}
theorem P_ (h:TA w a is d n P):∃ b off,(is=[]\/(a=some ⟨b,off,none⟩/\b<w.heap.size/\∀ i,i<is.length->P w b (off+i*n) (is.getD i d))):=by
 rcases h with h | ⟨b,off,h⟩
 · exact ⟨0,0,.inl h⟩
 · exact ⟨b,off,.inr h⟩
theorem EF (hP:∀ b o x,P w b o x->b<w.heap.size->P w' b o x) (h:TA w a is d n P) (e:Bw w w'):TA w' a is d n P:=by
 rcases h with h | ⟨b,off,h1,h2,f⟩
 · exact .inl h
 · exact .inr ⟨b,off,h1,m_ h2 e.size,fun i c=>hP _ _ _ (f i c) h2⟩
theorem MR {R:α->Prop} (hd:R d) (h:∀ i,i<is.length->R (is.getD i d)) (i:Nat):R (is.getD i d):=by
 rcases o8 i is.length with a | a
 · exact h i a
 · rw [show is.getD i d=d from by simp [List.getD,Ec a]];exact hd
theorem Gm {f:α->List Value} {k:Nat} (a:k<is.length):(is.take (k+1)).flatMap f=(is.take k).flatMap f++f (is.getD k d):=by
 rw [pq,Dq,y9 a];simp [List.getD,y9 a]
theorem Jc {f:α->List Value} {m:Nat} (hf:∀ x,(f x).length=m) (l:List α):(l.flatMap f).length=l.length*m:=by
 induction l with
 | nil=>simp
 | cons x l ih=>rw [Pg,N9,ih,hf,A_,Wl,Nat.add_comm]
theorem Si {f:α->List Value} {m:Nat} (hf:∀ x,(f x).length=m):∀ (l:List α) (i:Nat),i<l.length->∀ q v,(f (l.getD i d))[q]?=some v->(l.flatMap f)[i*m+q]?=some v
 | x::l,0,h,q,v,e=>by
  have a:q<(f x).length:=(Nj.1 e).1;rw [Pg,Wq,E8,I_ a];exact e
 | x::l,i+1,h,q,v,e=>by
  rw [Pg,Cf (by rw [hf,Wl];omega),hf,show (i+1)*m+q - m=i*m+q by rw [Wl];omega];exact Si hf l i (by simpa using h) q v e
end
structure Jb where
 nm:BY
 wk:Int
 un:Int
def Oc:Jb:=⟨⟨#[]⟩,0,0⟩
def dB (x:Jb):List Value:=[.string x.nm,.int .i64 x.wk,.int .i64 x.un]
def Uk (w:World) (a:OA) (is:List Jb):Prop:=TA w a is Oc 3 fun w b o x=>Bc w b o (dB x)
theorem Xk {w w':World} {a:OA} {is:List Jb} (h:Uk w a is) (c:Bw w w'):Uk w' a is:=EF (fun b o x h hl=>h.below hl c) h c
end Go.Proofs.YtkdbheidpdjimaaGreatDoor
namespace Go.Proofs.YtkdbheidpdjimaaGreatDoor
open Proofs.Tryz Go.RowKit
def Kp (b:Nat) (w:World) (P:World->Prop):Prop:=∀ u:World,w.heap.size<=u.heap.size->(∀ q,b<=q->q<w.heap.size->u.heap[q]?=w.heap[q]?)->P u
section
variable {b b' B:Nat} {w u:World} {P Q:World->Prop} {t:TypeId} {xs:List Value}
theorem Kp.now (h:Kp b w P):P w:=h w x9 (fun _ _ _=>rfl)
theorem Kp.next (h:Kp b w P) (c:w.heap.size<=u.heap.size) (d:∀ q,b<=q->q<w.heap.size->u.heap[q]?=w.heap[q]?):Kp b u P:=fun z h1 h2=>h z (Q7 c h1) (fun q a hl=>(h2 q a O0).trans (d q a hl))
theorem Kp.below (h:Kp b w P) (a:Bw w u):Kp b u P:=h.next a.size (fun q _ hl=>a.block q hl)
theorem Kp.on (h:Kp b w P) (ho:vF B w u) (hB:B<b):Kp b u P:=h.next (jq ho.size.symm) (fun q hq _=>ho.block q O0)
theorem Kp.low (h:Kp b w P) (hb:b'<=b):Kp b' w P:=fun z h1 h2=>h z h1 (fun q hq=>h2 q O0)
theorem Kp.imp (h:Kp b w P) (a:∀ u,P u->Q u):Kp b w Q:=fun z h1 h2=>a _ (h z h1 h2)
theorem LJ (h:Cl w B t xs) (a:b<=B):Kp b w fun u=>Cl u B t xs:=fun z _ h2=>(h2 B a h.lt).trans h
theorem iK {g:Nat} (h:u.heap[g]?=w.heap[g]?) (j:Nat):u.cell? ⟨g,j,none⟩=w.cell? ⟨g,j,none⟩:=by simp only [World.cell?,h]
theorem ax {ss:LB} (h:y8 w (some ⟨B,0,none⟩) ss) (c:b<=B):Kp b w fun u=>y8 u (some ⟨B,0,none⟩) ss:=fun z h1 h2=>by
 rcases h with h | ⟨q,o,e,hl,h⟩
 · exact .inl h
 cases e
 exact .inr ⟨B,0,rfl,O0,fun i a=>(iK (h2 B c hl) _).trans (h i a)⟩
end
def Et {β:Type} (b:Nat) (w:World) (LS:World->OA->List β->Prop) (ls:List β) (v:Value):Prop:=∃ a c,v=.slice a ls.length c/\ls.length<=c/\Kp b w (fun u=>LS u a ls)
section
variable {β:Type} {b b' B:Nat} {w u:World} {LS:World->OA->List β->Prop} {ls:List β} {v:Value}
theorem Et.below (h:Et b w LS ls v) (d:Bw w u):Et b u LS ls v:=by
 obtain ⟨a,c,e,hc,h⟩:=h;exact ⟨a,c,e,hc,h.below d⟩
theorem Et.on (h:Et b w LS ls v) (ho:vF B w u) (hB:B<b):Et b u LS ls v:=by
 obtain ⟨a,c,e,hc,h⟩:=h;exact ⟨a,c,e,hc,h.on ho hB⟩
theorem Et.low (h:Et b w LS ls v) (d:b'<=b):Et b' w LS ls v:=by
 obtain ⟨a,c,e,hc,h⟩:=h;exact ⟨a,c,e,hc,h.low d⟩
theorem Et.one (h:Et b w LS ls v):v.oneCell'=true:=by
 obtain ⟨a,c,rfl,_,h⟩:=h;rfl
end
structure Rn where
 nm:BY
 md:Int
 wt:BY
 ls:List L4
 cd:Int
 tx:BY
def Aa:Rn:=⟨⟨#[]⟩,0,⟨#[]⟩,[],0,⟨#[]⟩⟩
def Ht (p:Rn×Value):List Value:=[.string p.1.nm,.int .i64 p.1.md,.string p.1.wt,p.2,.int .i64 p.1.cd,.string p.1.tx]
def DT (w:World) (b o:Nat) (x:Rn):Prop:=∃ ai ci,Bc w b o (Ht (x,.slice ai x.ls.length ci))/\I9 w ai x.ls
def Dj (w:World) (a:OA) (is:List Rn):Prop:=TA w a is Aa 6 DT
theorem DT.below {w w':World} {b o:Nat} {x:Rn} (h:DT w b o x) (hl:b<w.heap.size) (d:Bw w w'):DT w' b o x:=by
 obtain ⟨a,c,h1,h2⟩:=h;exact ⟨a,c,h1.below hl d,N7 h2 d⟩
theorem rf {w w':World} {a:OA} {is:List Rn} (h:Dj w a is) (c:Bw w w'):Dj w' a is:=EF (fun b o x h hl=>h.below hl c) h c
def qM (p:R3×Value):List Value:=[.string p.1.key,p.2,.string p.1.out]
def wG (x:G3):List Value:=[.bool x.nm,.string x.tl,.string x.ar]
def NG (x:L4):List Value:=[.bool x.has,.string x.nm,.int .i64 x.cd,.string x.tx]
section
variable {α:Type} {w:World} {B n:Nat} {t:TypeId} {ps:List (α×Value)} {f:α×Value->List Value} {r:List Value} {d:α}
theorem yJ (hf:∀ x,(f x).length=n) (h:Cl w B t (ps.flatMap f++r)) {i:Nat} (a:i<ps.length):∃ v,((ps.map Prod.fst).getD i d,v)∈ps/\Bc w B (0+i*n) (f ((ps.map Prod.fst).getD i d,v)):=by
 refine ⟨(ps[i]).2,?_,?_⟩
 · rw [show (ps.map Prod.fst).getD i d=(ps[i]).1 from by simp [List.getD,a]];exact Bj a
 rw [show (ps.map Prod.fst).getD i d=(ps[i]).1 from by simp [List.getD,a]];refine qH h fun q v e=>?_;have hq:q<n:=by have:=(Nj.1 e).1;rwa [hf] at this
 have hl:=Jc (m:=n) hf ps;have:i*n+n<=ps.length*n:=by rw [<- Wl];exact Nat.mul_le_mul_right _ a
 rw [E8,I_ O0];exact Si (d:=(d,undef)) hf ps i a q v (by rw [show ps.getD i (d,undef)=ps[i] from by simp [List.getD,a]];exact e)
end
end Go.Proofs.YtkdbheidpdjimaaGreatDoor
namespace Go.Proofs.YtkdbheidpdjimaaGreatDoor
open Proofs.Tryz Go.RowKit
theorem c53 (x:Jb) (l:Int) (w:World) (h0:0<=l) (h1:l<=1048576) (hs:x.nm.size<=9223372036854775807):
 Calls prog 53 #[.agg #[.string x.nm,.int .i64 x.wk,.int .i64 x.un],.int .i64 l] w fun e w'=>(∃ r:Int,e=.returned (.int .i64 r)/\(0<=r->x.nm.size<=1048576/\r<=l))/\Bw w w':=by
 by_cases h':l<x.nm.size
 · go_enter func53,ntmps53;go_wp2;go_ret;exact ⟨⟨-1,rfl,fun h=>O0⟩,o7⟩
 · go_enter func53,ntmps53;go_wp2;go_ret;exact ⟨⟨_,rfl,fun h=>⟨O0,O0⟩⟩,o7⟩
theorem c15 (a:OA) (C:Nat) (is:List Jb) (l:Int) (w:World) (h0:0<=l) (h1:l<=1048576) (p:∀ i,(is.getD i Oc).nm.size<= 9223372036854775807) (hl:is.length<=9223372036854775807) (q:Uk w a is):
 Calls prog 15 #[.slice a is.length C,.int .i64 l] w fun e w'=>(∃ r:Int,e=.returned (.int .i64 r)/\(0<=r->is.length<=1048576/\(∀ i,(is.getD i Oc).nm.size<= 1048576)/\r<=1048576))/\Bw w w':=by
 obtain ⟨b,off,hc⟩:=P_ q;have F:=U0 hc;have E:=U0 p;clear hc q p;by_cases hbig:l<is.length
 · go_enter func15,ntmps15;go_wp2;go_ret;exact ⟨⟨-1,rfl,fun h=>O0⟩,Z4 _ _⟩
 go_enter func15,ntmps15
 go_wp2_with fail
 go_loopw [1,5] (fun v i wr=>∃ (k:Nat) (r:Int),k<=is.length/\i=.int .i64 k/\v=.int .i64 r/\0<=r/\r<=1048576/\Hid (∀ i,i<k->(is.getD i Oc).nm.size<= 1048576)/\Below w.heap.size w wr) (fun _ i _=>is.length - (intOf i).toNat)
 case atStart=>exact ⟨0,_,D5 _,rfl,rfl,O0,O0,fun i h=>absurd h (o9 _),Z4 _ _⟩
 case round=>
  obtain ⟨k,r,hk,rfl,rfl,A,z,o,c⟩:=hrel;by_cases f:k<is.length;rotate_left
  · have j:Hid (∀ i,(is.getD i Oc).nm.size<= 1048576):=U0 (MR (is:=is) (d:=Oc) (R:=fun x=>x.nm.size<= 1048576) O6 (fun i h=>o.out i O0));go_wp2;go_ret;exact ⟨⟨r,rfl,fun _=>⟨O0,j.out,z⟩⟩,c⟩
  obtain ⟨ha,n,g⟩:=Nc F.out f;subst ha;have g0:=((g k f).below n c) 0 _ rfl;have g1:=((g k f).below n c) 1 _ rfl;have g2:=((g k f).below n c) 2 _ rfl;dsimp only [Nat.add_zero] at g0;have y:=E.out k;generalize hx:is.getD k Oc=x at*;have D:Hid (is.getD k Oc=x):=hx;clear hx g
  go_wp2_with fail
  refine (c53 x r wr A O0 y).mono ?_;rintro e t ⟨⟨u,rfl,hr⟩,B⟩;have s:Bw w t:=G7 c B;by_cases hneg:u<0
  · clear hr;go_wp2;go_ret;exact ⟨⟨-1,rfl,fun h=>O0⟩,s⟩
  have m:=hr O0;have j:Hid (∀ i,i<k+1->(is.getD i Oc).nm.size<= 1048576):=by
   intro i h;rcases o8 i k with h1 | h1
   · exact o.out i h1
   · obtain rfl:i=k:=O0;rw [D.out];exact m.1
  have hr2:=m.2;clear hr m;go_wp2;go_roundw
  case rel=>exact ⟨k+1,_,O0,by go_num,rfl,O0,O0,j,s⟩
  case measure=>simp [intOf];omega
theorem c65 (x:Jb) (w:World):
 Calls prog 65 #[.agg #[.string x.nm,.int .i64 x.wk,.int .i64 x.un]] w fun e w'=>e=.returned (.agg #[.string x.nm,.int .i64 x.wk,.int .i64 x.un])/\Bw w w':=by
 go_enter func65,ntmps65;go_wp2;refine P7 (v:=.agg #[vS x.nm,vI x.wk,vI x.un]) (by simp [results,results65,go_sem]) rfl ⟨rfl,?_⟩;exact ((o7.alloc I4 _).alloc U7 _)
theorem c33 (a:OA) (N:Nat) (is:List Jb) (w:World) (hl:is.length<=1048576) (y:Uk w a is):
 Calls prog 33 #[.slice a is.length N] w fun e w'=>(∃ v,e=.returned v/\Et w.heap.size w' Uk is v)/\Bw w w':=by
 obtain ⟨b,off,hc⟩:=P_ y;have U:=U0 hc;clear hc y;obtain ⟨E,o,I,H,F⟩:=info_parts (show (prog.info? 120).map (fun i=>(i.zero,i.size,i.bytes))=some (some (.agg #[vE,vO,vO]),3,32) from J3);have hmk:∀ u:World,(Instr.makeSlice 46 (vI (is.length:Int)) (vI (is.length:Int))).run prog u=
  .ok (vL (some (aW u 0)) is.length is.length) (u.alloc (.cells (zs [vE,vO,vO] is.length).toArray 120)):=fun u=>by
  have h:=Vm (P:=prog) u 46 120 E (.agg #[vE,vO,vO]) underlying46 o I .i64 .i64 (is.length:Int) (is.length:Int) O0 (Ak _) (by rw [F];omega) O0;rw [<- Am];simpa [H,Value.cells] using h
 go_enter func33,ntmps33
 go_wp2_with fail
 go_loopw [4] (fun i wr=>∃ (k:Nat),k<=is.length/\i=.int .i64 k/\Below w.heap.size w wr/\Hid (Cl wr w.heap.size 120 ((is.take k).flatMap dB++zs [.string ⟨#[]⟩,.int .i64 0,.int .i64 0] (is.length - k)))) (fun i _=>is.length - (intOf i).toNat)
 case atStart=>exact ⟨0,D5 _,rfl,o7,by show Cl _ _ _ _;simp only [Zz,Kq,M_,Rq];exact G6 _ _ _⟩
 case round=>
  obtain ⟨k,J,rfl,g,hc⟩:=hrel;by_cases c:k<is.length;rotate_left
  · have hd:Hid (Et w.heap.size wr Uk is (vL (some (aW w 0)) is.length is.length)):=by
     obtain rfl:k=is.length:=O0;have h:=hc.out;rw [Uj,Um] at h;exact ⟨_,_,rfl,Y9 _,(LJ h x9).imp (fun u s=>.inr ⟨w.heap.size,0,rfl,s.lt,fun i o=>qH s (fun q v e=>by rw [E8,I_ (by have:=Jc (f:=dB) (m:=3) (fun _=>rfl) is;have:=(Nj.1 e).1;simp [dB] at this;omega)];exact Si (f:=dB) (m:=3) (d:=Oc) (fun _=>rfl) is i o q v e)⟩)⟩
    go_wp2;go_ret;exact ⟨⟨_,rfl,hd.out⟩,g⟩
  obtain ⟨ha,p,l⟩:=Nc U.out c;subst ha;have g0:=((l k c).below p g) 0 _ rfl;have g1:=((l k c).below p g) 1 _ rfl;have g2:=((l k c).below p g) 2 _ rfl;dsimp only [Nat.add_zero] at g0;have K:=U0 (Gm (d:=Oc) (f:=dB) c);generalize is.getD k Oc=x at*;clear l
  go_wp2_with fail
  refine (c65 x wr).mono ?_;rintro e C ⟨rfl,t⟩;have L:Bw w C:=G7 g t;have S:=U0 (hc.out.below t hc.out.lt);have r:Hid (((is.take k).flatMap dB).length=k*([vE,vO,vO]:List Value).length):=by show _=_;rw [Jc (m:=3) (fun _=>rfl),B_,Vk J];rfl
  have R:=U0 (Du (z:=[vE,vO,vO]) (vs:=dB x) (n:=is.length) r.out rfl c);have V:Hid (∀ v∈dB x,v.oneCell'=true):=by intro v hv;simp [dB] at hv;rcases hv with rfl|rfl|rfl<;>rfl
  have Q:Hid (∀ z,Cl z w.heap.size 120 (Zp ((is.take k).flatMap dB++zs [vE,vO,vO] (is.length - k)) (k*3) (dB x))->Cl z w.heap.size 120 ((is.take (k+1)).flatMap dB++zs [vE,vO,vO] (is.length - (k+1)))):=fun z h=>by rw [K.out,<- au (z:=[vE,vO,vO]) (vs:=dB x) r.out rfl c];exact h
  go_wp2_with (refine Z8 rfl 120 _ _ rfl (B:=w.heap.size) (j:=k*3) rfl (vs:=dB x) rfl S.out R.out V.out J3 ?_;intro z A D;have W:=U0 (Q.out z A);have O:=L.trans (D.below x9);clear A)
  go_roundw
  case rel=>exact ⟨k+1,O0,by go_num,O,W⟩
  case measure=>simp [intOf];omega
theorem c90 (x:Jb) (w:World):
 Calls prog 90 #[.agg #[.string x.nm,.int .i64 x.wk,.int .i64 x.un],.agg #[.string x.nm,.int .i64 x.wk,.int .i64 x.un]] w fun e w'=>e=.returned (.bool true)/\Bw w w':=by
 go_enter func90,ntmps90;go_wp2;go_ret;exact ⟨rfl,o7.alloc I4 _⟩
theorem c49 (a o:OA) (t s:Nat) (is:List Jb) (w:World) (hl:is.length<=1048576) (n:Uk w a is) (m:Uk w o is):
 Calls prog 49 #[.slice a is.length t,.slice o is.length s] w fun e w'=>e=.returned (.bool true)/\Bw w w':=by
 obtain ⟨b,off,hc⟩:=P_ n;have v:=U0 hc;obtain ⟨b',off',l⟩:=P_ m;have u:=U0 l;clear hc n l m;go_enter func49,ntmps49
 go_wp2_with fail
 go_loopw [5] (fun i wr=>∃ (k:Nat),k<=is.length/\i=.int .i64 k/\Below w.heap.size w wr) (fun i _=>is.length - (intOf i).toNat)
 case atStart=>exact ⟨0,D5 _,rfl,Z4 _ _⟩
 case round=>
  obtain ⟨k,hk,rfl,c⟩:=hrel;by_cases d:k<is.length;rotate_left
  · go_wp2;go_ret;exact ⟨rfl,c⟩
  obtain ⟨ha,j,g⟩:=Nc v.out d;obtain ⟨r,h,f⟩:=Nc u.out d;subst ha;subst r;have g0:=((g k d).below j c) 0 _ rfl;have g1:=((g k d).below j c) 1 _ rfl;have g2:=((g k d).below j c) 2 _ rfl;dsimp only [Nat.add_zero] at g0;have p:=((f k d).below h c) 0 _ rfl;have p1:=((f k d).below h c) 1 _ rfl;have p2:=((f k d).below h c) 2 _ rfl;dsimp only [Nat.add_zero] at p;generalize is.getD k Oc=x at*;clear g f
  go_wp2_with fail
  go_region_with (go_at_call 90;refine (c90 x _).mono ?_;rintro e w1 ⟨rfl,q⟩)
  all_goals go_wp2
  all_goals go_roundw
  all_goals first
   | exact ⟨k+1,O0,by go_num,(c.drew).trans (q.mono c.size)⟩
   | (simp [intOf];omega)
theorem a0H (x:G3) (l:Int) (w:World) (b:x.le 9223372036854775807) (h0:0<=l) (h1:l<=1048576):
 Calls prog 204 #[.agg #[.bool x.nm,.string x.tl,.string x.ar],.int .i64 l] w fun e w'=>(∃ r:Int,e=.returned (.int .i64 r)/\(0<=r->x.le 1048576/\r<=l))/\Bw w w':=by
 obtain ⟨s2,s3⟩:=b;have a:Hid (∀ r:Int,(0<=r->((x.tl.size:Int)<=l/\(x.ar.size:Int)<=l/\r<=l))->(0<=r->x.le 1048576/\r<=l)):=fun r h g=>by
  have:=h g;exact ⟨⟨O0,O0⟩,O0⟩
 by_cases h':l<x.tl.size
 · go_enter func204,ntmps204;go_wp2;go_ret;exact ⟨⟨-1,rfl,a.out _ fun h=>O0⟩,o7⟩
 · by_cases h'':l<x.tl.size+x.ar.size
   · go_enter func204,ntmps204;go_wp2;go_ret;exact ⟨⟨-1,rfl,a.out _ fun h=>O0⟩,o7⟩
   · go_enter func204,ntmps204;go_wp2;go_ret;exact ⟨⟨_,rfl,a.out _ fun h=>O0⟩,o7⟩
theorem eH {is:List G3} {B:Nat} (h:∀ i,i<is.length->(is.getD i Yg).le B) (i:Nat):(is.getD i Yg).le B:=by
 rcases o8 i is.length with a | a
 · exact h i a
 · have e:is.getD i Yg=Yg:=by simp [List.getD,Ec a]
   rw [e];exact ⟨D5 _,D5 _⟩
theorem c146 (a:OA) (B:Nat) (is:List G3) (l:Int) (w:World) (h0:0<=l) (h1:l<=1048576) (y:∀ i,(is.getD i Yg).le 9223372036854775807) (hl:is.length<=9223372036854775807) (q:Z_ w a is):
 Calls prog 146 #[.slice a is.length B,.int .i64 l] w fun e w'=>(∃ r:Int,e=.returned (.int .i64 r)/\(0<=r->is.length<=1048576/\(∀ i,(is.getD i Yg).le 1048576)/\r<=l - is.length))/\Bw w w':=by
 obtain ⟨b,off,hc⟩:=Oh q;have D:=U0 hc;clear hc q;by_cases hbig:l<is.length
 · go_enter func146,ntmps146;go_wp2;go_ret;exact ⟨⟨-1,rfl,fun h=>O0⟩,Z4 _ _⟩
 · go_enter func146,ntmps146
   go_wp2_with fail
   go_loopw [1,5] (fun u i wr=>∃ (k:Nat) (r:Int),k<=is.length/\i=.int .i64 k/\u=.int .i64 r/\0<=r/\r<=l - is.length/\Hid (∀ i,i<k->(is.getD i Yg).le 1048576)/\Below w.heap.size w wr) (fun _ i _=>is.length - (intOf i).toNat)
   case atStart=>exact ⟨0,_,D5 _,rfl,rfl,O0,O0,fun i h=>absurd h (o9 _),Z4 _ _⟩
   case round=>
    obtain ⟨k,r,hk,rfl,rfl,z,n,m,c⟩:=hrel;by_cases d:k<is.length
    · obtain ⟨ha,j,f⟩:=Nc D.out d;subst ha;have g0:=(c.cell (p:=⟨b,off+k*3,none⟩) j).trans (f k d).1;have g1:=(c.cell (p:=⟨b,off+k*3+1,none⟩) j).trans (f k d).2.1;have g2:=(c.cell (p:=⟨b,off+k*3+2,none⟩) j).trans (f k d).2.2;have v:=y k;generalize hx:is.getD k Yg=x at*;have C:=U0 hx;clear hx f
      go_wp2_with fail
      refine (a0H x r wr v z O0).mono ?_;rintro e w1 ⟨⟨t,rfl,hr⟩,A⟩;have s:=G7 c A;by_cases hneg:t<0
      · clear hr;go_wp2;go_ret;exact ⟨⟨-1,rfl,fun h=>O0⟩,s⟩
      · have o:=hr O0;have g:Hid (∀ i,i<k+1->(is.getD i Yg).le 1048576):=by
         intro i h;rcases o8 i k with h1 | h1
         · exact m.out i h1
         · obtain rfl:i=k:=O0;rw [C.out];exact o.1
        clear hr;go_wp2;go_roundw
        case rel=>exact ⟨k+1,_,O0,by go_num,rfl,O0,Int.le_trans o.2 n,g,s⟩
        case measure=>simp [intOf];omega
    · have g:=U0 (eH (fun i h=>m.out i O0));go_wp2;go_ret;exact ⟨⟨r,rfl,fun _=>⟨O0,g.out,n⟩⟩,c⟩
theorem YG {is:List R3} {B:Nat} (h:∀ i,i<is.length->(is.getD i g_).le B) (i:Nat):(is.getD i g_).le B:=by
 rcases o8 i is.length with a | a
 · exact h i a
 · have e:is.getD i g_=g_:=by simp [List.getD,Ec a]
   rw [e];exact ⟨D5 _,D5 _,fun i=>⟨D5 _,D5 _⟩,D5 _⟩
theorem c92 (x:R3) (a:OA) (d:Nat) (l:Int) (w:World) (q:x.le 9223372036854775807) (h0:0<=l) (h1:l<=1048576) (k:Z_ w a x.gs):
 Calls prog 92 #[.agg #[.string x.key,.slice a x.gs.length d,.string x.out],.int .i64 l] w fun e w'=>(∃ r:Int,e=.returned (.int .i64 r)/\(0<=r->x.le 1048576/\r<=l - x.gs.length))/\Bw w w':=by
 obtain ⟨s1,o,f,s4⟩:=q;have c:Bw w (w.alloc (.cells #[vS x.key,vL a x.gs.length d,vS x.out] 158)):=o7;by_cases h:l<x.key.size
 · go_enter func92,ntmps92;go_wp2;go_ret;exact ⟨⟨-1,rfl,fun h=>O0⟩,c⟩
 · have m:=c146 a d x.gs (l - x.key.size) _ O0 O0 f o (O8 k c);go_enter func92,ntmps92
   go_wp2_with fail
   refine m.mono ?_;rintro e n ⟨⟨g,rfl,hr⟩,j⟩;have b:=c.trans (j.mono I4);have g2:n.cell? ⟨w.heap.size,2,none⟩=some (vS x.out):=by rw [j.cell I4];simp
   clear m k;by_cases hneg:g<0
   · clear hr;go_wp2;go_ret;exact ⟨⟨-1,rfl,fun h=>O0⟩,b⟩
   · obtain ⟨p,i,q3⟩:=hr O0;have s:=U0 i;clear hr i f;by_cases ho:g<x.out.size
     · go_wp2;go_ret;exact ⟨⟨-1,rfl,fun h=>O0⟩,b⟩
     · go_wp2;go_ret;exact ⟨⟨_,rfl,fun h=>⟨⟨O0,p,s.out,O0⟩,O0⟩⟩,b⟩
theorem c51 (a:OA) (C:Nat) (is:List R3) (l:Int) (w:World) (h0:0<=l) (h1:l<=1048576) (m:∀ i,(is.getD i g_).le 9223372036854775807) (hl:is.length<=9223372036854775807) (p:Jg w a is):
 Calls prog 51 #[.slice a is.length C,.int .i64 l] w fun e w'=>(∃ r:Int,e=.returned (.int .i64 r)/\(0<=r->is.length<=1048576/\(∀ i,(is.getD i g_).le 1048576)/\r<=l - is.length - Xx is))/\Bw w w':=by
 obtain ⟨b,off,hc⟩:=Af p;have H:=U0 hc;have F:=U0 m;clear hc p m;by_cases hbig:l<is.length
 · go_enter func51,ntmps51;go_wp2;go_ret;exact ⟨⟨-1,rfl,fun h=>O0⟩,Z4 _ _⟩
 · go_enter func51,ntmps51
   go_wp2_with fail
   go_loopw [1,5] (fun t i wr=>∃ (k:Nat) (r:Int),k<=is.length/\i=.int .i64 k/\t=.int .i64 r/\0<=r/\r<=l - is.length - Xx (is.take k)/\Hid (∀ i,i<k->(is.getD i g_).le 1048576)/\Below w.heap.size w wr) (fun _ i _=>is.length - (intOf i).toNat)
   case atStart=>exact ⟨0,_,D5 _,rfl,rfl,O0,by simp [Xx],fun i h=>absurd h (o9 _),Z4 _ _⟩
   case round=>
    obtain ⟨k,r,hk,rfl,rfl,v,n,j,g⟩:=hrel;by_cases f:k<is.length
    · obtain ⟨ha,y,o⟩:=Nc H.out f;subst ha;obtain ⟨D,B,e0,e1,e2,A⟩:=(o k f).below y g;have u:=F.out k;have hgs:=SL f;generalize hx:is.getD k g_=x at*;have E:=U0 hx;clear hx o
      go_wp2_with fail
      refine (c92 x D B r wr u v O0 A).mono ?_;rintro e w1 ⟨⟨s,rfl,hr⟩,z⟩;have q:=G7 g z;by_cases hneg:s<0
      · clear hr;go_wp2;go_ret;exact ⟨⟨-1,rfl,fun h=>O0⟩,q⟩
      · have d:=hr O0;have c:Hid (∀ i,i<k+1->(is.getD i g_).le 1048576):=by
         intro i h;rcases o8 i k with h1 | h1
         · exact j.out i h1
         · obtain rfl:i=k:=O0;rw [E.out];exact d.1
        have hr2:=d.2;clear hr d;go_wp2;go_roundw
        case rel=>exact ⟨k+1,_,O0,by go_num,rfl,O0,O0,c,q⟩
        case measure=>simp [intOf];omega
    · have c:=U0 (YG (fun i h=>j.out i O0));go_wp2;go_ret;exact ⟨⟨r,rfl,fun _=>⟨O0,c.out,by rw [u_ O0] at n;exact n⟩⟩,g⟩
theorem c11 (ta ra:OA) (tc rc:Nat) (s:St) (l:Int) (w:World) (h0:0<=l) (hl:l<=1048576) (p:s.le 9223372036854775807) (g:Zg w ta ra s):
 Calls prog 11 #[.agg #[.int .i64 s.wd,.slice ta s.ts.length tc,.slice ra s.rs.length rc],.int .i64 l] w fun e w'=>(∃ r:Int,e=.returned (.int .i64 r)/\(0<=r->(s.le 1048576/\s.ts.length+s.rs.length+Xx s.rs<=1048576)/\r<=l))/\Bw w w':=by
 obtain ⟨⟨h1,h2⟩,u,j⟩:=p;have a:Bw w (w.alloc (.cells #[vI s.wd,vL ta s.ts.length tc,vL ra s.rs.length rc] 30)):=o7;have c:=(Hid.out (show Hid (Zg _ ta ra s) from g.below a));have m:=c13 ta tc s.ts l _ h0 hl h2 h1 c.1;have y:=U0 j;have v:=U0 c.2;clear g c j h2;go_enter func11,ntmps11
 go_wp2_with fail
 refine m.mono ?_;rintro e w1 ⟨⟨d,rfl,hr⟩,hw⟩;obtain rfl:=hw;clear m;by_cases q:d<0
 · clear hr;go_wp2;go_ret;exact ⟨⟨-1,rfl,fun h=>O0⟩,a⟩
 · obtain ⟨o,f,q3⟩:=hr O0;have x:=U0 f;clear hr f;have k:=c51 ra rc s.rs d _ O0 O0 y.out u v.out
   go_wp2_with fail
   refine k.mono ?_;rintro e w2 ⟨⟨n,rfl,hr⟩,t⟩;have i:=a.trans (t.mono I4);have b:=U0 hr;clear k hr;by_cases q:n<0
   · go_wp2;go_ret;exact ⟨⟨-1,rfl,fun h=>O0⟩,i⟩
   · have hr2:=(b.out O0).2.2;go_wp2;go_ret;exact ⟨⟨_,rfl,fun h=>⟨⟨⟨⟨o,x.out⟩,(b.out h).1,(b.out h).2.1⟩,O0⟩,O0⟩⟩,i⟩
theorem JX (x:Value) (n:Nat):zs [x] n=List.replicate n x:=by
 induction n with
 | zero=>rfl
 | succ n ih=>rw [eF,ih];rfl
theorem pV (x:Value) (hx:x.oneCell'=true) (n:Nat):∀ v∈List.replicate n x,v.oneCell'=true:=fun v hv=>by rw [(List.mem_replicate.1 hv).2];exact hx
theorem tK {n k m:Nat} {V Z:Value} (h:k+m<=n):splice (List.replicate k V++List.replicate (n - k) Z) k (List.replicate m V)=List.replicate (k+m) V++List.replicate (n - (k+m)) Z:=by
 unfold splice;rw [List.take_left' I4,Iz,List.drop_append,List.drop_eq_nil_of_le I4,M_,Iz,List.drop_replicate,<- oq,List.replicate_append_replicate]
 congr 2
 omega
theorem c234 (n:Int) (w:World) (a:n=1\/n=2\/n=3\/n=4):Calls prog 234 #[.int .u64 1,.int .u64 n] w fun e w'=>e=.returned (.tuple #[.int .u64 0,.int .u64 n])/\w'=w:=by
 rcases a with rfl|rfl|rfl|rfl
 all_goals
  go_enter func234,ntmps234;go_wp2;go_ret2;exact ⟨rfl,rfl⟩
theorem a2d (n:Int) (w:World) (a:n=1\/n=2\/n=3\/n=4):Calls prog 189 #[.int .u64 1,.int .u64 n] w fun e w'=>e=.returned (.tuple #[.int .u64 0,.int .u64 n])/\w'=w:=by
 go_enter func189,ntmps189
 go_wp2_with fail
 refine (c234 n w a).mono ?_;rintro e w1 ⟨rfl,rfl⟩;go_wp2;go_ret2;exact ⟨rfl,rfl⟩
theorem a2i (n x:Nat) (w:World) (l:1<=n/\n<=4) (hx:x<w.heap.size) (hc:w.cell? ⟨x,0,none⟩=some (.int .i64 (-1))):
 Calls prog 126 #[.slice (some ⟨x,0,none⟩) 1 1,.int .i64 n] w fun e w'=>(∃ g,e=.returned (.slice (some ⟨g,0,none⟩) n n)/\Cl w' g 3 (List.replicate n (.int .i64 (-1))))/\Bw w w':=by
 obtain ⟨F,q,f,d,c⟩:=info_parts mW;have J:∀ u:World,(Instr.makeSlice 31 (vI (n:Int)) (vI (n:Int))).run prog u=
  .ok (vL (some (aW u 0)) n n) (u.alloc (.cells (List.replicate n (Value.int .i64 0)).toArray 3)):=fun u=>by
  have h:=Vm (P:=prog) u 31 3 F vO underlying31 q f .i64 .i64 (n:Int) (n:Int) O0 (Ak _) (by rw [c];omega) O0;have e:=Am [Value.int .i64 0] n;rw [JX] at e;rw [<- e];simpa [d,Value.cells] using h
 clear q f d c;have I:IntKind.u64.wrap (n:Int)=n:=by obtain rfl|rfl|rfl|rfl:n=1\/n=2\/n=3\/n=4:=O0<;>rfl
 have hv:IntKind.i64.wrap (n:Int)=n:=by obtain rfl|rfl|rfl|rfl:n=1\/n=2\/n=3\/n=4:=O0<;>rfl
 go_enter func126,ntmps126
 go_wp2_with fail
 refine (a2d n w O0).mono ?_;rintro e w1 ⟨rfl,H⟩;obtain rfl:=H.symm;have C:=U0 (G6 w (List.replicate n (Value.int .i64 0)) 3);have z:Bw w (w.alloc (.cells (List.replicate n (Value.int .i64 0)).toArray 3)):=o7;have o:=(z.cell (p:=(aA x 0)) hx).trans hc;have A:Hid (∀ j v,([vI (-1)]:List Value)[j]?=some v->(w.alloc (.cells (List.replicate n (Value.int .i64 0)).toArray 3)).cell? ((aA x 0).add j)=some v):=fun j v h=>by
  match j with
  | 0=>obtain rfl:=Q9 h;exact o
  | j+1=>simp at h
 have a:([vI (-1)]:List Value).length=Nat.min 1 n:=(Vk l.1).symm
 go_wp2_with (refine wpList_copy_splice rfl (.tmp 31) (.tmp 32) 31 31 rfl 3 underlying31 J3 _ _ _ _ _ _ rfl rfl w.heap.size 0 (List.replicate n (Value.int .i64 0)) 3 C.out [vI (-1)] a (fun _=>⟨rfl,_,rfl,A.out⟩) U7 (by simp [Value.oneCell']) w.heap.size w z x9 ?_;intro E s R)
 have W:Hid (Cl E w.heap.size 3 (List.replicate 1 (Value.int .i64 (-1))++List.replicate (n - 1) (Value.int .i64 0))):=by
  have h:=s.out;have e:=tK (n:=n) (k:=0) (m:=1) (V:=vI (-1)) (Z:=vO) O0;simp only [List.replicate_zero,M_,Rq,E8] at e;show _=_;rw [<- e];exact h
 clear s C A o J a;go_loopw [8] (fun i wr=>∃ k:Nat,1<=k/\k<=n/\i=.int .i64 k/\Hid (Cl wr w.heap.size 3 (List.replicate k (Value.int .i64 (-1))++List.replicate (n - k) (Value.int .i64 0)))/\Below w.heap.size w wr) (fun i _=>n - (intOf i).toNat)
 case atStart=>exact ⟨1,Y9 _,l.1,rfl,W,R⟩
 case round=>
  obtain ⟨k,hk1,hk,rfl,b,t⟩:=hrel;by_cases hlt:k<n;rotate_left
  · obtain rfl:k=n:=O0;have X:Hid (Cl wr w.heap.size 3 (List.replicate k (Value.int .i64 (-1)))):=by
     have h:=b.out;rw [Um,List.replicate_zero,Tz] at h;exact h
    go_wp2;go_ret;exact ⟨⟨_,rfl,X.out⟩,t⟩
  have B:Hid (∀ j v,(List.replicate (min k (n - k)) (Value.int .i64 (-1)))[j]?=some v->wr.drew.cell? ((aW w 0).add j)=some v):=fun j v h=>by
   have N:j<min k (n - k):=by have:=(Nj.1 h).1;simpa using this
   rw [Vt,E8];refine (b.out.cell j).trans ?_;rw [I_ U7,<- h,List.getElem?_replicate,List.getElem?_replicate,G8 O0,G8 N]
  go_wp2_with fail
  refine wp_region_held_drew (S:=fun _=>True) J3 trivial fun hH=>?_;refine tq 0 hH ?_;refine tq 1 hH ?_;refine Y0 2 ?_;refine tq 3 hH ?_;refine tq 4 hH ?_;refine Y0 5 ?_;refine Y0 6 ?_;refine rq 7 fun K y=>?_;have a:(List.replicate (min k (n - k)) (Value.int .i64 (-1))).length=Nat.min k (n - k):=Iz;refine step_copy_splice rfl (.tmp 41) (.tmp 44) 31 31 rfl 3 underlying31 J3 _ _ _ _ _ _ rfl rfl w.heap.size k (List.replicate k (Value.int .i64 (-1))++List.replicate (n - k) (Value.int .i64 0)) 3 b.out (List.replicate (min k (n - k)) (Value.int .i64 (-1))) a (fun _=>⟨A8 O0,_,rfl,B.out⟩) U7 (pV _ rfl _) w.heap.size w (t.trans (Z4 _ _).drew) x9 ?_;intro D r Q;have U:Hid (Cl D w.heap.size 3 (List.replicate (k+min k (n - k)) (Value.int .i64 (-1))++List.replicate (n - (k+min k (n - k))) (Value.int .i64 0))):=by
   show _=_;rw [<- tK O0];exact r.out
  rw [Iz];have hm1:1<=min k (n - k):=O0;have L:k+min k (n - k)<=n:=O0;have O:goInt ((min k (n - k):Nat):Int)=vI ((min k (n - k):Nat):Int):=rfl;rw [O];generalize min k (n - k)=m at*;clear r b B I hv;have hkm:IntKind.i64.wrap ((k:Int)+(m:Int))=((k+m:Nat):Int):=by rw [MH];omega
  refine J8 y trivial fun hH=>?_;clear y K;refine Y0 8 ?_;refine Y0 9 ?_;refine wdn ?_;go_wp2;go_roundw
  case rel=>exact ⟨k+m,O0,L,by rw [Int.natCast_add],U,Q⟩
  case measure=>simp [intOf];omega
theorem c75 (n:Nat) (w:World) (c:1<=n/\n<=4):Calls prog 75 #[.int .i64 n] w fun e w'=>(∃ g,e=.returned (.slice (some ⟨g,0,none⟩) n n)/\Cl w' g 3 (List.replicate n (.int .i64 (-1))))/\Bw w w':=by
 have a:Bw w (w.alloc (.cells #[vI (-1)] 3)):=o7;go_enter func75,ntmps75
 go_wp2_with fail
 refine (a2i n w.heap.size _ c I4 (by simp [go_sem])).mono ?_;rintro e w1 ⟨⟨g,rfl,h1⟩,b⟩;have f:=U0 h1;have d:=U0 (G7 a b);clear h1 b a;go_wp2;go_ret;exact ⟨⟨g,rfl,f.out⟩,d.out⟩
theorem c145 (c:Int) (s:BY) (w:World):
 Calls prog 145 #[.agg #[.int .i64 c,.string s],.agg #[.int .i64 c,.string s]] w fun e w'=>e=.returned (.bool true)/\Bw w w':=by
 go_enter func145,ntmps145;go_wp2;go_ret;exact ⟨rfl,o7.alloc I4 _⟩
theorem xG {is:List L4} {B:Nat} (h:∀ i,i<is.length->(is.getD i O_).le B) (i:Nat):(is.getD i O_).le B:=by
 rcases o8 i is.length with a | a
 · exact h i a
 · have e:is.getD i O_=O_:=by simp [List.getD,Ec a]
   rw [e];exact ⟨D5 _,D5 _⟩
theorem c203 (x:L4) (w:World):
 Calls prog 203 #[.agg #[.bool x.has,.string x.nm,.int .i64 x.cd,.string x.tx],.agg #[.bool x.has,.string x.nm,.int .i64 x.cd,.string x.tx]] w fun e w'=>e=.returned (.bool true)/\Bw w w':=by
 go_enter func203,ntmps203
 go_wp2_with fail
 have hB:∀ o1 o2,Bw w ((w.alloc o1).alloc o2):=fun o1 o2=>o7.alloc I4 _;refine (c145 x.cd x.tx _).mono ?_;rintro e w1 ⟨rfl,a⟩;go_wp2;go_ret;exact ⟨rfl,(hB _ _).trans (a.mono U7)⟩
theorem a1a (a q:OA) (u t:Nat) (is:List L4) (w:World) (hl:is.length<=1048576) (o:I9 w a is) (n:I9 w q is):
 Calls prog 144 #[.slice a is.length u,.slice q is.length t] w fun e w'=>e=.returned (.bool true)/\Bw w w':=by
 obtain ⟨b,off,hc⟩:=Og o;have y:=U0 hc;clear hc o;obtain ⟨b',h,m⟩:=Og n;have v:=U0 m;clear m n;go_enter func144,ntmps144
 go_wp2_with fail
 go_loopw [5] (fun i wr=>∃ (k:Nat),k<=is.length/\i=.int .i64 k/\Below w.heap.size w wr) (fun i _=>is.length - (intOf i).toNat)
 case atStart=>exact ⟨0,D5 _,rfl,Z4 _ _⟩
 case round=>
  obtain ⟨k,hk,rfl,c⟩:=hrel;by_cases d:k<is.length
  · obtain ⟨ha,l,g⟩:=Nc y.out d;obtain ⟨s,j,f⟩:=Nc v.out d;subst ha;subst s;have g0:=(c.cell (p:=⟨b,off+k*4,none⟩) l).trans (g k d).1;have g1:=(c.cell (p:=⟨b,off+k*4+1,none⟩) l).trans (g k d).2.1;have g2:=(c.cell (p:=⟨b,off+k*4+2,none⟩) l).trans (g k d).2.2.1;have g3:=(c.cell (p:=⟨b,off+k*4+3,none⟩) l).trans (g k d).2.2.2;have g0':=(c.cell (p:=⟨b',h+k*4,none⟩) j).trans (f k d).1;have g1':=(c.cell (p:=⟨b',h+k*4+1,none⟩) j).trans (f k d).2.1;have g2':=(c.cell (p:=⟨b',h+k*4+2,none⟩) j).trans (f k d).2.2.1;have g3':=(c.cell (p:=⟨b',h+k*4+3,none⟩) j).trans (f k d).2.2.2;generalize is.getD k O_=x at*;clear g f
    go_wp2_with fail
    go_region_with (go_at_call 203;refine (c203 x _).mono ?_;rintro e w1 ⟨rfl,r⟩)
    all_goals go_wp2
    all_goals go_roundw
    all_goals first
     | exact ⟨k+1,O0,by go_num,(c.drew).trans (r.mono c.size)⟩
     | (simp [intOf];omega)
  · go_wp2;go_ret;exact ⟨rfl,c⟩
theorem c94 (cd:Int) (tx:BY) (l:Int) (w:World) (hs:tx.size<=9223372036854775807) (h0:0<=l) (h1:l<=1048576):
 Calls prog 94 #[.agg #[.int .i64 cd,.string tx],.int .i64 l] w fun e w'=>(∃ r:Int,e=.returned (.int .i64 r)/\(0<=r->tx.size<=1048576/\r<=1048576))/\Bw w w':=by
 by_cases h':l<tx.size
 · go_enter func94,ntmps94;go_wp2;go_ret;exact ⟨⟨-1,rfl,fun h=>O0⟩,o7⟩
 · go_enter func94,ntmps94;go_wp2;go_ret;exact ⟨⟨_,rfl,fun h=>O0⟩,o7⟩
theorem a0U (x:L4) (l:Int) (w:World) (d:x.le 9223372036854775807) (h0:0<=l) (h1:l<=1048576):
 Calls prog 147 #[.agg #[.bool x.has,.string x.nm,.int .i64 x.cd,.string x.tx],.int .i64 l] w fun e w'=>(∃ r:Int,e=.returned (.int .i64 r)/\(0<=r->x.le 1048576/\r<=1048576))/\Bw w w':=by
 obtain ⟨s2,c⟩:=d;by_cases h':l<x.nm.size
 · go_enter func147,ntmps147;go_wp2;go_ret;exact ⟨⟨-1,rfl,fun h=>O0⟩,o7⟩
 · have g:=fun u=>c94 x.cd x.tx (l - x.nm.size) u c O0 O0;go_enter func147,ntmps147
   go_wp2_with fail
   refine (g _).mono ?_;rintro e w1 ⟨⟨r,rfl,hr⟩,f⟩;have b:=o7.trans (f.mono I4);by_cases hn:r<0
   · clear hr;go_wp2;go_ret;exact ⟨⟨-1,rfl,fun h=>O0⟩,b⟩
   · have a:=hr O0;clear hr;go_wp2;go_ret;exact ⟨⟨r,rfl,fun h=>⟨⟨O0,a.1⟩,a.2⟩⟩,b⟩
theorem c93 (a:OA) (A:Nat) (is:List L4) (l:Int) (w:World) (h0:0<=l) (h1:l<=1048576) (v:∀ i,(is.getD i O_).le 9223372036854775807) (hl:is.length<=9223372036854775807) (q:I9 w a is):
 Calls prog 93 #[.slice a is.length A,.int .i64 l] w fun e w'=>(∃ r:Int,e=.returned (.int .i64 r)/\(0<=r->is.length<=1048576/\(∀ i,(is.getD i O_).le 1048576)/\r<=1048576))/\Bw w w':=by
 obtain ⟨b,off,hc⟩:=Og q;have C:=U0 hc;clear hc q;by_cases hbig:l<is.length
 · go_enter func93,ntmps93;go_wp2;go_ret;exact ⟨⟨-1,rfl,fun h=>O0⟩,Z4 _ _⟩
 · go_enter func93,ntmps93
   go_wp2_with fail
   go_loopw [1,5] (fun l i wr=>∃ (k:Nat) (r:Int),k<=is.length/\i=.int .i64 k/\l=.int .i64 r/\0<=r/\r<=1048576/\Hid (∀ i,i<k->(is.getD i O_).le 1048576)/\Below w.heap.size w wr) (fun _ i _=>is.length - (intOf i).toNat)
   case atStart=>exact ⟨0,_,D5 _,rfl,rfl,O0,O0,fun i h=>absurd h (o9 _),Z4 _ _⟩
   case round=>
    obtain ⟨k,r,hk,rfl,rfl,y,n,m,c⟩:=hrel;by_cases d:k<is.length
    · obtain ⟨ha,g,f⟩:=Nc C.out d;subst ha;have g0:=(c.cell (p:=⟨b,off+k*4,none⟩) g).trans (f k d).1;have g1:=(c.cell (p:=⟨b,off+k*4+1,none⟩) g).trans (f k d).2.1;have g2:=(c.cell (p:=⟨b,off+k*4+2,none⟩) g).trans (f k d).2.2.1;have g3:=(c.cell (p:=⟨b,off+k*4+3,none⟩) g).trans (f k d).2.2.2;have u:=v k;generalize hx:is.getD k O_=x at*;have B:=U0 hx;clear hx f
      go_wp2_with fail
      refine (a0U x r wr u y n).mono ?_;rintro e w1 ⟨⟨t,rfl,hr⟩,z⟩;have s:=G7 c z;by_cases hneg:t<0
      · clear hr;go_wp2;go_ret;exact ⟨⟨-1,rfl,fun h=>O0⟩,s⟩
      · have o:=hr O0;have j:Hid (∀ i,i<k+1->(is.getD i O_).le 1048576):=by
         intro i h;rcases o8 i k with h1 | h1
         · exact m.out i h1
         · obtain rfl:i=k:=O0;rw [B.out];exact o.1
        clear hr;go_wp2;go_roundw
        case rel=>exact ⟨k+1,_,O0,by go_num,rfl,O0,o.2,j,s⟩
        case measure=>simp [intOf];omega
    · have j:=U0 (xG (fun i h=>m.out i O0));go_wp2;go_ret;exact ⟨⟨r,rfl,fun _=>⟨O0,j.out,n⟩⟩,c⟩
