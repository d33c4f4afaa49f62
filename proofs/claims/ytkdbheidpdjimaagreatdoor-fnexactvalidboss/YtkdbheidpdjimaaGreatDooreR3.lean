import Derived.Test.YtkdbheidpdjimaaGreatDooreYI
import Derived.Test.YtkdbheidpdjimaaGreatDooreQC
import Derived.Lib.IndexBytes
import Derived.Lib.Split
set_option linter.unusedVariables false
set_option maxRecDepth 100000
set_option maxHeartbeats 8000000
namespace Go.Proofs.YtkdbheidpdjimaaGreatDoor
open Proofs.Tryz Go.RowKit Go.Maps Go.Sort Go.Shelf
variable {w:World} {b base g k:Nat} {gs:List G3} {ss:List (List UInt8)} {a l r:List UInt8} {x y:M3}
attribute [local go_sem] Oper.semAt_some
theorem c119 (a:Option Nat) (n:Nat) (w:World):CallsIn Fence.wide n prog 119 #[.map a] w fun e w'=>e=.returned (.func (.func 182) #[] #[.pointer (some ⟨w.heap.size,0,none⟩)])/\w'=w.alloc (.cells #[.map a] 184):=by
 refine callsIn_of_wp func119 rfl trivial ?_ rfl;simp only [ntmps119,Wx,A_,Xe,Nat.reduceAdd,Nat.reduceSub,Hy,Yy,JA,Ry,M_,Uf]
 gi_wp2
 go_ret;exact ⟨rfl,rfl⟩
theorem a1B (a:Option Nat) (n:Nat) (w:World):CallsIn Fence.wide n prog 120 #[.map a] w fun e w'=>e=.returned (.func (.func 185) #[] #[.pointer (some ⟨w.heap.size,0,none⟩)])/\w'=w.alloc (.cells #[.map a] 185):=by
 refine callsIn_of_wp func120 rfl trivial ?_ rfl;simp only [ntmps120,Wx,A_,Xe,Nat.reduceAdd,Nat.reduceSub,Hy,Yy,JA,Ry,M_,Uf]
 gi_wp2
 go_ret;exact ⟨rfl,rfl⟩
def gC (gs:List G3):List Value:=gs.flatMap fun g=>[.bool g.nm,.string g.tl,.string g.ar]
theorem MO (gs:List G3):(gC gs).length=gs.length*3:=by
 induction gs with
 | nil=>rfl
 | cons x r ih=>simp only [gC,Pg,N9] at ih ⊢;rw [ih];simp;omega
theorem WR (gs:List G3):∀ u∈gC gs,u.oneCell'=true:=fun u a=>by
 obtain ⟨g,_,h⟩:=SE.1 a;simp at h;rcases h with rfl | rfl | rfl <;> rfl
theorem XV (gs:List G3):∀ k,k<gs.length->(gC gs)[k*3]?=some (.bool (gs.getD k Yg).nm)/\(gC gs)[k*3+1]?=some (.string (gs.getD k Yg).tl)/\(gC gs)[k*3+2]?=some (.string (gs.getD k Yg).ar):=by
 induction gs with
 | nil=>intro k a;exact absurd a (o9 _)
 | cons x r ih=>
  intro k a
  cases k with
  | zero=>exact ⟨rfl,rfl,rfl⟩
  | succ k=>
   have:=ih k (by simpa using a);have e1:(k+1)*3=k*3+1+1+1:=O0;rw [e1];exact this
theorem PY {off:Nat} (h:∀ i,i<gs.length->w.cell? ⟨b,off+i*3,none⟩=some (.bool (gs.getD i Yg).nm)/\w.cell? ⟨b,off+i*3+1,none⟩=some (.string (gs.getD i Yg).tl)/\w.cell? ⟨b,off+i*3+2,none⟩=some (.string (gs.getD i Yg).ar)):∀ j v,(gC gs)[j]?=some v->w.cell? ((⟨b,off,none⟩:Addr).add j)=some v:=by
 intro j v a;rw [Nb];have hlt:j<gs.length*3:=by rw [<- MO];exact (Nj.1 a).1
 obtain ⟨q,hq⟩:∃ q,j / 3=q:=⟨_,rfl⟩;have c:q<gs.length:=O0;obtain ⟨f,d,a2⟩:=XV gs q c;obtain ⟨b0,l,k⟩:=h q c;have g:j=q*3\/j=q*3+1\/j=q*3+2:=O0;rcases g with e | e | e
 · subst e;rw [a] at f;cases f;exact b0
 · subst e;rw [a] at d;cases d;exact l
 · subst e;rw [a] at a2;cases a2;exact k
theorem MQ:(prog.info? 178).map (fun i=>(i.zero,i.size,i.bytes))=some (some (.agg #[.bool false,.string ⟨#[]⟩,.string ⟨#[]⟩]),3,40):=J3
theorem TD {a:OA} {c:Nat} (h:w.ownsRow base 178 3 (.slice a gs.length c) gs.length (gC gs)):Z_ w a gs:=by
 have b:=h;rcases h.2 with ⟨hv,h0⟩ | ⟨g,cap,cur,hv,hg,e,_⟩
 · exact .inl (Ya.1 h0)
 · simp only [Gy] at hv;obtain ⟨rfl,_,rfl⟩:=hv;refine .inr ⟨g,0,rfl,(D_.1 e).1,fun k d=>?_⟩;obtain ⟨i,f,a2⟩:=XV gs k d;refine ⟨?_,?_,?_⟩
   · rw [E8,b.cellAt (k*3) O0];exact i
   · rw [E8,b.cellAt (k*3+1) O0];exact f
   · rw [E8,b.cellAt (k*3+2) O0];exact a2
theorem GN (b:Addr) (c:Nat) (gs:List G3) (w:World) (hl:gs.length<=1048576) (f:∀ u,Bw w u->∀ j v,(gC gs)[j]?=some v->u.cell? (b.add j)=some v):
 Calls prog 121 #[.slice (some b) gs.length c] w fun e w'=>(∃ d a,e=.returned (.slice d gs.length a)/\w'.ownsRow w.heap.size 178 3 (.slice d gs.length a) gs.length (gC gs))/\Bw w w':=by
 obtain ⟨m,r,p,o,n⟩:=info_parts' MQ;have hnil:∀ u,(binOp .eql 111 (vL (some b) gs.length c) vN).run prog u=.ok (.bool false) u:=fun u=>J3;have x:=U0 f;clear f;go_enter func121,ntmps121;have q:True:=trivial
 go_wp2_with (refine xh rfl (.tmp 5) (.tmp 6) 111 rfl w.heap.size 178 m (.agg #[.bool false,.string ⟨#[]⟩,.string ⟨#[]⟩]) 3 40 underlying111 r p o n rfl O6 _ _ _ rfl ((World.ownsRow_made w #[] 0 x9 (Nat.zero_le _) rfl)) b gs.length c (gC gs) rfl (MO gs) (x.out _ o7) (WR gs) (by unfold maxLen;omega) O0 I4 ?_;revert q)
 intro v' k g s;obtain ⟨d,a,rfl⟩:=U9 g;have t:Bw w k:=o7.grown s I4 (fun l h=>by have i:some w.heap.size=some l:=h;injection i with i;omega);go_wp2;go_ret;exact ⟨⟨d,a,rfl,g⟩,t⟩
theorem dM (c:Nat) (w:World):
 Calls prog 121 #[.slice none 0 c] w fun e w'=>e=.returned (.slice none 0 0)/\Bw w w':=by
 have hnil:∀ u,(binOp .eql 111 (vL none 0 c) vN).run prog u=.ok (.bool true) u:=fun u=>J3;go_enter func121,ntmps121;go_wp2;go_ret;exact ⟨rfl,Z4 _ _⟩
theorem a0F (a:OA) (c:Nat) (gs:List G3) (w:World) (hl:gs.length<=1048576) (k:Z_ w a gs):
 Calls prog 121 #[.slice a gs.length c] w fun e w'=>(∃ m l,e=.returned (.slice m gs.length l)/\w'.ownsRow w.heap.size 178 3 (.slice m gs.length l) gs.length (gC gs))/\Bw w w':=by
 cases a with
 | none=>
  rcases k with rfl | ⟨b,off,h,_⟩
  · refine (dM c w).mono ?_;rintro e w' ⟨rfl,o⟩;exact ⟨⟨none,0,rfl,ng _ _ _ _⟩,o⟩
  · cases h
 | some ad=>
  refine GN ad c gs w hl fun u d=>?_;rcases k with rfl | ⟨b,off,h,f,hc⟩
  · intro j v n;simp [gC] at n
  · cases h
    exact PY (fun i g=>⟨(d.cell (p:=(aA b (off+i*3))) f).trans (hc i g).1,(d.cell (p:=(aA b (off+i*3+1))) f).trans (hc i g).2.1,(d.cell (p:=(aA b (off+i*3+2))) f).trans (hc i g).2.2⟩)
open Go.RowKit
def cst (b:UInt8) (p:List (List UInt8)×List UInt8) (c:UInt8):List (List UInt8)×List UInt8:=if c=b then (p.1++[p.2],[]) else (p.1,p.2++[c])
def D8 (b:UInt8) (l:List UInt8):List (List UInt8)×List UInt8:=l.foldl (cst b) ([],[])
def L8 (b:UInt8) (l:List UInt8):List (List UInt8):=(D8 b l).1++[(D8 b l).2]
theorem Qn (b:UInt8) (l:List UInt8) (c:UInt8):D8 b (l++[c])=cst b (D8 b l) c:=by simp [D8]
theorem qI (b:UInt8) (l:List UInt8) (p:List (List UInt8)×List UInt8):(l.foldl (cst b) p).1.length<=p.1.length+l.length:=by
 induction l generalizing p with
 | nil=>simp
 | cons c l ih=>
  have:=ih (cst b p c);have h2:(cst b p c).1.length<=p.1.length+1:=by unfold cst;split <;> simp
  simp only [jw,A_];omega
theorem su (b:UInt8) (l:List UInt8):(D8 b l).1.length<=l.length:=by have:=qI b l ([],[]);simpa [D8] using this
def Dt (ss:List (List UInt8)):List Value:=ss.map fun l=>.string (Y2 l)
theorem xg (ss:List (List UInt8)) (l:List UInt8):Dt (ss++[l])=Dt ss++[.string (Y2 l)]:=by simp [Dt]
def Yb (w:World) (g:Nat) (ss:List (List UInt8)):Prop:=g<w.heap.size/\∀ i,i<ss.length->w.cell? ⟨g,i,none⟩=some (.string (Y2 (ss.getD i [])))
theorem Qc {w':World} (h:Yb w g ss) (a:Bw w w'):Yb w' g ss:=
 ⟨m_ h.1 a.size,fun i b=>by rw [a.cell (by exact h.1)];exact h.2 i b⟩
theorem Eh (h:w.ownsRow base 9 1 (.slice (some ⟨g,0,none⟩) k b) k (Dt ss)) (hl:ss.length=k):Yb w g ss:=by
 refine ⟨(h.lt g rfl).2,fun i a=>?_⟩;rw [h.cellAt i O0];simp [Dt,a]
theorem ql {e:TypeId} {size:Nat} {v:Value} {n:Nat} {xs:List Value} (h:w.ownsRow base e size v n xs) (hn:0<n):∃ g a,v=.slice (some ⟨g,0,none⟩) n a:=by
 rcases h.2 with ⟨_,h0⟩ | ⟨g,b,cur,hv,_⟩
 · omega
 · exact ⟨g,b,hv⟩
theorem qc {s:BY} (h:s.data.toList=l):s=Y2 l:=by
 apply qg;unfold Y2;rw [<- h]
theorem Cb (s:BY) (a b:Nat):(s.extract a b).data.toList=(s.data.toList.take b).drop a:=by
 rw [ByteArray.data_extract,Array.toList_extract,List.extract_eq_take_drop,TI]
theorem IY (s:BY) (b:UInt8) (w:World) (hs:s.size<=1048700):
 Calls prog 95 #[.string s,.int .u8 b.toNat] w fun e w'=>(∃ g o,e=.returned (.slice (some ⟨g,0,none⟩) (L8 b s.data.toList).length o)/\w.heap.size<=g/\Yb w' g (L8 b s.data.toList))/\Bw w w':=by
 obtain ⟨z,H,C,B,A⟩:=info_parts info9;have hlen:s.data.toList.length=s.size:=I4;go_enter func95,ntmps95
 go_wp2_with fail
 go_loopw [5,6,7] (fun v fr i wr=>∃ (k f:Nat),k<=s.size/\f<=k/\i=.int .i64 k/\fr=.int .i64 f/\wr.ownsRow w.heap.size 9 1 v (D8 b (s.data.toList.take k)).1.length (Dt (D8 b (s.data.toList.take k)).1)/\Hid ((s.data.toList.take k).drop f=(D8 b (s.data.toList.take k)).2)/\Below w.heap.size w wr/\w.heap.size+1<=wr.heap.size) (fun _ _ i _=>s.size - (intOf i).toNat)
 case atStart=>exact ⟨0,0,D5 _,Y9 _,rfl,rfl,Ku _ #[] 0 x9 (D5 _) rfl,rfl,o7,I4⟩
 case round=>
  obtain ⟨k,f,hk,hf,rfl,rfl,c,d,h,J⟩:=hrel;have hL:(D8 b (s.data.toList.take k)).1.length<=k:=by
   have:=su b (s.data.toList.take k);rw [B_] at this;omega
  by_cases E:k<s.size
  · have p:Hid (D8 b (s.data.toList.take (k+1))=cst b (D8 b (s.data.toList.take k)) s[k]):=by rw [take_snoc s k E,Qn];rfl
    have t:Hid (s.extract f k=Y2 (D8 b (s.data.toList.take k)).2):=qc (by rw [Cb];exact d.out);by_cases hc:s[k]=b
    · have e1:((s[k].toNat:Int)==(b.toNat:Int))=true:=by rw [hc];simp
      have l:Hid (cst b (D8 b (s.data.toList.take k)) s[k]=((D8 b (s.data.toList.take k)).1++[(D8 b (s.data.toList.take k)).2],[])):=by unfold cst;rw [if_pos hc];rfl
      have x:Hid ((s.data.toList.take (k+1)).drop (k+1)=[]):=zq U7;clear hc d;generalize D8 b (s.data.toList.take k)=st at*
      go_wp2_with (at_builtin;refine wpList_append_own _ rfl _ _ 22 rfl w.heap.size 9 z (.string ⟨#[]⟩) 1 16 underlying22 H C B A rfl O6 _ _ _ rfl (c.alloc _) ⟨wr.heap.size,0,none⟩ 1 1 [_] rfl rfl (cell_one_new _ _ _) (by intro u a;simp at a;subst a;rfl) (by unfold maxLen;omega) O0 U7 ?_;intro v' y m n _)
      go_roundw
      case rel=>
       have r:=(h.alloc h.size _).grown n U7 (fun j q=>(c.lt j q).1);refine ⟨k+1,k+1,O0,Y9 _,by go_num,by go_num,?_,?_,r,by have:=n.size;simp at this;omega⟩
       · rw [p.out,l.out,N9,xg,<- t.out];exact m
       · rw [p.out,l.out];exact x.out
      case measure=>simp [intOf];omega
    · have e1:((s[k].toNat:Int)==(b.toNat:Int))=false:=by
       simp only [n_];intro e;exact hc (Ei.1 O0)
      have l:Hid (cst b (D8 b (s.data.toList.take k)) s[k]=((D8 b (s.data.toList.take k)).1,(D8 b (s.data.toList.take k)).2++[s[k]])):=by unfold cst;rw [if_neg hc];rfl
      have x:Hid ((s.data.toList.take (k+1)).drop f=(s.data.toList.take k).drop f++[s[k]]):=by rw [take_snoc s k E,II U7];rfl
      clear hc;generalize D8 b (s.data.toList.take k)=st at*;go_wp2;go_roundw
      case rel=>
       refine ⟨k+1,f,O0,O0,by go_num,rfl,?_,?_,h,J⟩
       · rw [p.out,l.out];exact c
       · rw [p.out,l.out,x.out,d.out];rfl
      case measure=>simp [intOf];omega
  · have L:Hid (s.data.toList.take k=s.data.toList):=u_ O0;have t:Hid (s.extract f s.size=Y2 (D8 b (s.data.toList.take k)).2):=qc (by rw [Cb,<- show k=s.size by omega];exact d.out);have I:Hid (L8 b s.data.toList=(D8 b (s.data.toList.take k)).1++[(D8 b (s.data.toList.take k)).2]):=by rw [L.out];rfl
    clear d;generalize D8 b (s.data.toList.take k)=st at*
    go_wp2_with (at_builtin;refine wpList_append_own _ rfl _ _ 22 rfl w.heap.size 9 z (.string ⟨#[]⟩) 1 16 underlying22 H C B A rfl O6 _ _ _ rfl (c.alloc _) ⟨wr.heap.size,0,none⟩ 1 1 [_] rfl rfl (cell_one_new _ _ _) (by intro u a;simp at a;subst a;rfl) (by unfold maxLen;omega) O0 U7 ?_;intro v' y m n _;obtain ⟨g,o,K⟩:=ql m O0;subst K)
    go_ret;have r:=(h.alloc h.size _).grown n U7 (fun j q=>(c.lt j q).1);have D:y.ownsRow w.heap.size 9 1 (vL (some (aA g 0)) (st.1.length+1) o) (st.1.length+1) (Dt (L8 b s.data.toList)):=by
     rw [I.out,xg,<- t.out];exact m
    have F:(L8 b s.data.toList).length=st.1.length+1:=by rw [I.out];simp
    refine ⟨⟨g,o,by rw [F];rfl,(D.lt g rfl).1,Eh D F⟩,r⟩
def O1 (l:List UInt8):List UInt8:=l.takeWhile (· !=32)
def Y1 (l:List UInt8):List UInt8:=(l.dropWhile (· !=32)).drop 1
theorem Ul (ha:(l.take k).all (· !=32)=true) (_hk:k<=l.length) (he:k=l.length\/l.getD k 0=32):O1 l=l.take k/\Y1 l=l.drop (k+1):=by
 have h:l.takeWhile (· !=32)=l.take k/\l.dropWhile (· !=32)=l.drop k:=by
  rcases o8 k l.length with c | d
  · have hx:l[k]=32:=by
     rcases he with he | he
     · omega
     · simpa [c] using he
    have e:l=l.take k++l[k]::l.drop (k+1):=by rw [<- Xz c,Gi]
    have b:∀ a∈l.take k,(a !=32)=true:=fun a h=>Iq.1 ha a h;constructor
    · conv=>lhs;rw [e]
      rw [List.takeWhile_append_of_pos b,hx];simp
    · conv=>lhs;rw [e]
      rw [List.dropWhile_append_of_pos b,hx];rw [Xz c,hx];simp
  · rw [u_ d] at ha;rw [u_ d,zq d];have b:∀ a∈l,(a !=32)=true:=fun a h=>Iq.1 ha a h;have:=List.takeWhile_append_of_pos (l₂:=[]) b;have h2:=List.dropWhile_append_of_pos (l₂:=[]) b;simp only [Tz,List.takeWhile_nil,List.dropWhile_nil] at this h2;exact ⟨this,h2⟩
 refine ⟨h.1,?_⟩;unfold Y1;rw [h.2,QD]
def S9 (l:List UInt8):Nat->List UInt8
 | 0=>l
 | k+1=>Y1 (S9 l k)
def w_ (l:List UInt8) (k:Nat):List (List UInt8):=(List.range k).map fun j=>O1 (S9 l j)
theorem Wj (l:List UInt8) (k:Nat):w_ l (k+1)=w_ l k++[O1 (S9 l k)]:=by simp [w_,VE]
theorem X7 (l:List UInt8):(O1 l).length<=l.length/\(Y1 l).length<=l.length:=by
 unfold O1 Y1;refine ⟨(List.takeWhile_sublist _).length_le,?_⟩;have:=(List.dropWhile_sublist (l:=l) (· !=32)).length_le;simp only [Qj];omega
theorem Yi (l:List UInt8) (k:Nat):(S9 l k).length<=l.length:=by
 induction k with
 | zero=>exact Y9 _
 | succ k ih=>exact Q7 (X7 _).2 ih
theorem Xi (h:(32:UInt8)∉l):O1 l=l/\Y1 l=[]:=by
 have:=Ul (l:=l) (k:=l.length) (by rw [Uj,Iq];intro a ha;simp only [Nq];intro e;exact h (e▸ha)) x9 (.inl rfl);rw [Uj,zq O0] at this;exact this
theorem Y7 (h:(32:UInt8)∉a):O1 (a++32::r)=a/\Y1 (a++32::r)=r:=by
 have:=Ul (l:=a++32::r) (k:=a.length) (by rw [List.take_left,Iq];intro x ha;simp only [Nq];intro e;exact h (e▸ha)) I4 (.inr I4);rw [List.take_left] at this;refine ⟨this.1,this.2.trans ?_⟩;rw [<- QD,List.drop_left];rfl
theorem Lm (h:(32:UInt8)∈l):l=O1 l++32::Y1 l/\(32:UInt8)∉O1 l:=by
 obtain ⟨a,r,rfl,ha⟩:=List.eq_append_cons_of_mem h;obtain ⟨h1,h2⟩:=Y7 (r:=r) ha;rw [h1,h2];exact ⟨rfl,ha⟩
theorem Jr (l:List UInt8):(Lib.index l [32]=-1/\(32:UInt8)∉l)\/(∃ i:Nat,Lib.index l [32]=i/\(32:UInt8)∈l/\l.take i=O1 l/\l.drop (i+1)=Y1 l):=by
 rw [Lib.index_one];have hge:=Lib.indexByte_ge l 32;by_cases h:Lib.indexByte l 32=-1
 · refine .inl ⟨h,fun hm=>?_⟩;obtain ⟨k,a,e⟩:=Ee hm;exact Lib.indexByte_none h k (by rw [y9 a,e])
 · obtain ⟨o,ho⟩:∃ o:Nat,Lib.indexByte l 32=o:=⟨(Lib.indexByte l 32).toNat,O0⟩;obtain ⟨h1,h2⟩:=Lib.indexByte_some ho;have hl:o<l.length:=by
    rcases o8 o l.length with h | h
    · exact h
    · rw [Ec h] at h1;cases h1
   have hm:(32:UInt8)∈l:=List.mem_of_getElem? h1;have:=Ul (l:=l) (k:=o) (by
    rw [Iq];intro x hx;simp only [Nq];rintro rfl;obtain ⟨k,a,e⟩:=Ee hx;rw [B_] at a;rw [NE] at e;exact h2 k O0 (by rw [y9 O0,e])) O0 (.inr (by simp [List.getD,h1]))
   exact .inr ⟨o,ho,hm,this.1.symm,this.2.symm⟩
theorem YI (l:List UInt8):(Lib.cut l [32]).1=O1 l:=by
 unfold Lib.cut;rcases Jr l with ⟨h,a⟩ | ⟨i,h,_,h1,_⟩
 · rw [h,A8 O0,(Xi a).1]
 · rw [h,G8 O0];exact h1
def Yd (l:List UInt8) (n:Nat):List (List UInt8):=Lib.splitK [32] 0 n l
theorem VI (l:List UInt8):Yd l 0=[l]:=rfl
theorem Rh (n:Nat) (h:(32:UInt8)∉l):Yd l n=[l]:=by
 cases n with
 | zero=>rfl
 | succ n=>
  unfold Yd Lib.splitK;rcases Jr l with ⟨a,_⟩ | ⟨i,_,hm,_⟩
  · rw [a];rfl
  · exact absurd hm h
theorem Zk (n:Nat) (h:(32:UInt8)∈l):Yd l (n+1)=O1 l::Yd (Y1 l) n:=by
 unfold Yd;rw [Lib.splitK];rcases Jr l with ⟨_,a⟩ | ⟨i,b,_,h1,h2⟩
 · exact absurd h a
 · rw [b,A8 I4];simp only [Dz,Zo,Ej,h1,h2]
theorem YD (l:List UInt8):(Lib.cut l [32]).2.1=Y1 l:=by
 unfold Lib.cut;rcases Jr l with ⟨h,a⟩ | ⟨i,h,_,_,h2⟩
 · rw [h,A8 O0,(Xi a).2]
 · rw [h,G8 O0];exact h2
theorem kN (l:List UInt8):Yd l (min 3 (l.length+1) - 1)=Yd l 2:=by
 rcases o8 l.length 2 with h | h
 · cases l with
   | nil=>rw [Rh _ I4,Rh _ I4]
   | cons c r=>
    cases r with
    | cons d r=>simp at h;omega
    | nil=>
     by_cases a:(32:UInt8)∈[c]
     · have e:Y1 [c]=[]:=by
        simp only [dw] at a;subst a;rfl
       have e1:min 3 ([c].length+1) - 1=0+1:=rfl;rw [e1,Zk 0 a,Zk 1 a,e,Rh _ I4,Rh _ I4]
     · rw [Rh _ a,Rh _ a]
 · have:min 3 (l.length+1)=3:=O0;rw [this]
theorem zK {b q:List UInt8} (ha:(32:UInt8)∉a) (e:(32:UInt8)∉b) (h:a++32::r=b++32::q):a=b/\r=q:=by
 induction a generalizing b with
 | nil=>
  cases b with
  | nil=>simpa using h
  | cons c b=>simp at h;exact absurd (by rw [h.1];simp) e
 | cons d a ih=>
  cases b with
  | nil=>simp at h;exact absurd (by rw [h.1];simp) ha
  | cons c b=>
   simp only [Uf,Ci] at h;obtain ⟨h1,h2⟩:=ih (fun h=>ha (ug _ h)) (fun h=>e (ug _ h)) h.2;exact ⟨by rw [h.1,h1],h2⟩
theorem iJ {a b:BY} (h:a.data.toList=b.data.toList):a=b:=qg (Rl.1 h)
theorem R_ (h:o6 l=true):(32:UInt8)∉l/\(10:UInt8)∉l:=by
 simp only [o6,Fa,Iq] at h;constructor
 · intro hm;have:=h.2 _ hm;revert this;decide
 · intro hm;have:=h.2 _ hm;revert this;decide
theorem zh (h:Ff x=true):o6 x.nm.data.toList=true/\o6 x.tl.data.toList=true/\(x.ar.size:Int)<=300:=by
 simp only [Ff,Fa,Fe] at h;exact ⟨h.1.1,h.1.2,h.2⟩
theorem Ic (x:M3):Bd x=x.nm.data.toList++32::(x.tl.data.toList++32::X5 x.ar.data.toList):=by simp [Bd]
theorem bK (x:M3):Bd x≠[]:=by rw [Ic];simp
theorem nC (hx:Ff x=true) (a:Ff y=true) (h:Bd x=Bd y):x=y:=by
 obtain ⟨f,a2,_⟩:=zh hx;obtain ⟨e,d,_⟩:=zh a;rw [Ic,Ic] at h;obtain ⟨e1,h⟩:=zK (R_ f).1 (R_ e).1 h;obtain ⟨c,h⟩:=zK (R_ a2).1 (R_ d).1 h;have b:=Xm h;cases x;cases y;simp only [M3.mk.injEq];exact ⟨iJ e1,iJ c,iJ b⟩
theorem ZF (p:List (List UInt8)×List UInt8) (a:List UInt8) (h:(10:UInt8)∉a):(a++[10]).foldl (cst 10) p=(p.1++[p.2++a],[]):=by
 induction a generalizing p with
 | nil=>simp [cst]
 | cons c a ih=>
  have hc:c≠10:=fun e=>h (by rw [e];simp);rw [Uf,jw,ih _ (fun b=>h (ug _ b))];simp [cst,hc]
theorem UB (b:UInt8) (l:List UInt8) (p:List (List UInt8)×List UInt8) (N:Nat) (h1:∀ x∈p.1,x.length<=N) (h2:p.2.length+l.length<=N):(∀ x∈(l.foldl (cst b) p).1,x.length<=N)/\(l.foldl (cst b) p).2.length<=N:=by
 induction l generalizing p with
 | nil=>exact ⟨h1,by simpa using h2⟩
 | cons c l ih=>
  rw [jw];apply ih
  · unfold cst;split
    · intro x hx;rcases jh.1 hx with h | h
      · exact h1 x h
      · simp at h;subst h;simp at h2;omega
    · exact h1
  · simp only [A_] at h2;unfold cst;split
    · simp;omega
    · simp;omega
theorem Oe (b:UInt8) (l:List UInt8) (k:Nat):((L8 b l).getD k []).length<=l.length:=by
 obtain ⟨h1,h2⟩:=UB b l ([],[]) l.length I4 I4;have h:∀ x∈L8 b l,x.length<=l.length:=by
  intro x hx;unfold L8 D8 at hx;rcases jh.1 hx with h | h
  · exact h1 x h
  · simp at h;subst h;exact h2
 rcases o8 k (L8 b l).length with a | a
 · rw [List.getD,y9 a];exact h _ (Bj a)
 · rw [List.getD,Ec a];simp
theorem Qi (b:UInt8) (l:List UInt8):1<=(L8 b l).length/\(L8 b l).length<=l.length+1:=by
 have:=su b l;unfold L8;rw [N9,Ej];omega
def zx (l:List UInt8) (x:M3) (ok:Bool):Prop:=(ok=true->Ff x=true/\l=Bd x)/\(ok=false->∀ y,Ff y=true->l≠Bd y)
theorem SN (h:∀ y,Ff y=true->l≠Bd y):zx l x false:=⟨(fun h=>by cases h),fun _=>h⟩
theorem Yt (c:Ff y=true) (h:l=Bd y):((32:UInt8)∈l/\(32:UInt8)∈Y1 l)/\O1 l=y.nm.data.toList/\O1 (Y1 l)=y.tl.data.toList/\Y1 (Y1 l)=X5 y.ar.data.toList:=by
 obtain ⟨h1,h2,_⟩:=zh c;rw [Ic] at h;have b:=Y7 (r:=y.tl.data.toList++32::X5 y.ar.data.toList) (R_ h1).1;have a:=Y7 (r:=X5 y.ar.data.toList) (R_ h2).1;rw [h,b.1,b.2,a.1,a.2];exact ⟨⟨I4,I4⟩,rfl,rfl,rfl⟩
theorem fG {t:List UInt8} {ok:Bool} (hm:(32:UInt8)∈l) (f:(32:UInt8)∈Y1 l) (a:(ok=true->Y1 (Y1 l)=X5 t)/\(ok=false->∀ q,Y1 (Y1 l)≠X5 q)):
 (ok=true->Ff ⟨Y2 (O1 l),Y2 (O1 (Y1 l)),Y2 t⟩=true->zx l ⟨Y2 (O1 l),Y2 (O1 (Y1 l)),Y2 t⟩ true)/\(¬ (ok=true/\Ff ⟨Y2 (O1 l),Y2 (O1 (Y1 l)),Y2 t⟩=true)->∀ y,Ff y=true->l≠Bd y):=by
 constructor
 · intro h1 h2;refine ⟨fun _=>⟨h2,?_⟩,(fun h=>by cases h)⟩;rw [Ic];show l=O1 l++32::(O1 (Y1 l)++32::X5 t);rw [<- a.1 h1,<- (Lm f).1,<- (Lm hm).1]
 · intro d y b e;obtain ⟨_,e1,g,c⟩:=Yt b e;apply d;cases ok
   · exact absurd c (a.2 rfl _)
   · refine ⟨rfl,?_⟩;have:t=y.ar.data.toList:=Xm ((a.1 rfl).symm.trans c);rw [this,e1,g];exact b
theorem a1Z (K:Nat) (hK1:1<=K) (hK2:K<=10) (s:BY) (w:World) (hs:s.size<=1048700):
 Calls prog 96 #[.string s,.int .i64 K] w fun e w'=>(∃ g y,e=.returned (.tuple #[.slice (some ⟨g,0,none⟩) K y,.string (Y2 (S9 s.data.toList K))])/\w.heap.size<=g/\Yb w' g (w_ s.data.toList K))/\Bw w w':=by
 obtain ⟨B,H,E,D,C⟩:=info_parts info9;have hlen:s.data.toList.length=s.size:=I4;go_enter func96,ntmps96
 go_wp2_with fail
 go_loopw [0,6,7] (fun L v i wr=>∃ (m:Nat) (t:ByteArray) (ss:List (List UInt8)),m<=K/\i=.int .i64 m/\L=.string t/\wr.ownsRow w.heap.size 9 1 v m (Dt ss)/\Hid (t=Y2 (S9 s.data.toList m)/\ss=w_ s.data.toList m)/\Below w.heap.size w wr/\w.heap.size+1<=wr.heap.size) (fun _ _ i _=>K - (intOf i).toNat)
 case atStart=>exact ⟨0,s,[],D5 _,rfl,rfl,Ku _ #[] 0 x9 (D5 _) rfl,⟨rfl,rfl⟩,o7,I4⟩
 case round=>
  obtain ⟨m,t,ss,hm,rfl,rfl,a,hrel,o,hz⟩:=hrel;by_cases hlt:m<K
  · obtain ⟨hT,rfl⟩:=hrel.out;have hts:t.size<=1048700:=by rw [hT,J5];have:=Yi s.data.toList m;omega
    have I:t.data.toList=S9 s.data.toList m:=by rw [hT];simp [Y2]
    have p:=U0 I;have a5F:t.data.toList.length=t.size:=I4;clear hT I;clear hrel
    go_wp2_with fail
    go_loop [8] (fun n=>∃ k:Nat,k<=t.size/\n=.int .i64 k/\Hid ((t.data.toList.take k).all (· !=32)=true)) (fun n=>t.size - (intOf n).toNat)
    case atStart=>exact ⟨0,D5 _,rfl,rfl⟩
    case round=>
     obtain ⟨k,hk,rfl,ha⟩:=hrel;by_cases F:k<t.size
     · have a6w:(k:Int)<(t.size:Int):=O0;by_cases b:t[k]=32
       · have e1:((t[k].toNat:Int) !=32)=false:=by rw [b];rfl
         obtain ⟨d,c⟩:=Ul (l:=t.data.toList) ha.out O0 (.inr (by simp [F];exact b));have z:Hid (t.extract 0 k=Y2 (O1 t.data.toList)):=qc (by rw [Cb,d];rfl);have A:Hid (t.extract (k+1) t.size=Y2 (Y1 t.data.toList)):=qc (by rw [Cb,c,u_ O0]);clear b d c
         go_wp2_with (at_builtin;refine wpList_append_own _ rfl _ _ 22 rfl w.heap.size 9 B (.string ⟨#[]⟩) 1 16 underlying22 H E D C rfl O6 _ _ _ rfl (a.alloc _) ⟨wr.heap.size,0,none⟩ 1 1 [_] rfl rfl (cell_one_new _ _ _) (by intro u f;simp at f;subst f;rfl) (by unfold maxLen;omega) O0 U7 ?_;intro v' J q h _)
         go_roundw
         case rel=>
          have x:=(o.alloc o.size _).grown h U7 (fun j r=>(a.lt j r).1);refine ⟨m+1,_,w_ s.data.toList (m+1),O0,by go_num,rfl,?_,⟨by rw [A.out,p.out];rfl,rfl⟩,x,by have:=h.size;simp at this;omega⟩;rw [Wj,xg,<- p.out,<- z.out];exact q
         case measure=>simp [intOf];omega
       · have e1:((t[k].toNat:Int) !=32)=true:=by
          simp only [Nq];intro e;exact b (Ei.1 (by
           have:t[k].toNat=32:=O0;rw [this];rfl))
         have O:Hid ((t.data.toList.take (k+1)).all (· !=32)=true):=by
          rw [take_snoc t k F,Ho,ha.out];simp [Hid,b]
         clear b;go_wp2
         go_round
         case rel=>exact ⟨k+1,O0,by go_num,O⟩
         case measure=>simp [intOf];omega
     · obtain ⟨d,c⟩:=Ul (l:=t.data.toList) ha.out O0 (.inl O0);have z:Hid (t.extract 0 k=Y2 (O1 t.data.toList)):=qc (by rw [Cb,d];rfl);have A:Hid (t.extract k t.size=Y2 (Y1 t.data.toList)):=qc (by rw [Cb,c,u_ O0,zq O0,zq O0]);clear d c
       go_wp2_with (at_builtin;refine wpList_append_own _ rfl _ _ 22 rfl w.heap.size 9 B (.string ⟨#[]⟩) 1 16 underlying22 H E D C rfl O6 _ _ _ rfl (a.alloc _) ⟨wr.heap.size,0,none⟩ 1 1 [_] rfl rfl (cell_one_new _ _ _) (by intro u f;simp at f;subst f;rfl) (by unfold maxLen;omega) O0 U7 ?_;intro v' J q h _)
       go_roundw
       case rel=>
        have x:=(o.alloc o.size _).grown h U7 (fun j r=>(a.lt j r).1);refine ⟨m+1,_,w_ s.data.toList (m+1),O0,by go_num,rfl,?_,⟨by rw [A.out,p.out];rfl,rfl⟩,x,by have:=h.size;simp at this;omega⟩;rw [Wj,xg,<- p.out,<- z.out];exact q
       case measure=>simp [intOf];omega
  · obtain rfl:m=K:=O0;obtain ⟨rfl,rfl⟩:=hrel.out;clear hrel;obtain ⟨g,y,N⟩:=ql a O0;subst N;go_wp2;go_ret2;exact ⟨⟨g,y,rfl,(a.lt g rfl).1,Eh a (by simp [w_])⟩,o⟩
