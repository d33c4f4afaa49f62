import Derived.Test.YtbgdfcmeheaiiaaGreatDooreP6
set_option linter.unusedVariables false
set_option linter.unusedSimpArgs false
set_option maxHeartbeats 8000000
set_option maxRecDepth 100000
namespace Go.Proofs.YtbgdfcmeheaiiaaGreatDoor
open Proofs.Tryz Go.RowKit
variable{w:World}{b base g k:Nat}{ss:List (List UInt8)}{l t:List UInt8}{c:UInt8}
def cst(b:UInt8)(p:List (List UInt8)×List UInt8)(c:UInt8):List (List UInt8)×List UInt8:=if c=b then(p.1++[p.2],[]) else(p.1,p.2++[c])
def Z7(b:UInt8)(l:List UInt8):List (List UInt8)×List UInt8:=l.foldl (cst b) ([],[])
def L8(b:UInt8)(l:List UInt8):List (List UInt8):=(Z7 b l).1++[(Z7 b l).2]
theorem Po(b:UInt8)(l:List UInt8)(c:UInt8):Z7 b (l++[c])=cst b (Z7 b l) c:=by simp[Z7]
theorem XI(b:UInt8)(l:List UInt8)(p:List (List UInt8)×List UInt8):(l.foldl (cst b) p).1.length<=p.1.length+l.length:=by
 induction l generalizing p with
 | nil=>simp
 | cons c l ih=>
  have:=ih (cst b p c);have h2:(cst b p c).1.length<=p.1.length+1:=by unfold cst;split<;>simp
  simp only[Rw,x_];omega
theorem dw(b:UInt8)(l:List UInt8):(Z7 b l).1.length<=l.length:=by have:=XI b l ([],[]);simpa[Z7]using this
def ru(ss:List (List UInt8)):List Value:=ss.map λl=>.string (Y2 l)
theorem Zf(ss:List (List UInt8))(l:List UInt8):ru (ss++[l])=ru ss++[.string (Y2 l)]:=by simp[ru]
def qc(w:World)(g:Nat)(ss:List (List UInt8)):Prop:=g<w.heap.size/\∀i,i<ss.length->w.cell? ⟨g,i,none⟩=some (.string (Y2 (ss.getD i [])))
theorem ug{w':World}(h:qc w g ss)(a:Bw w w'):qc w' g ss:=
 ⟨G9 h.1 a.size,λi b=>by rw[a.cell (by exact h.1)];exact h.2 i b⟩
theorem Eh(h:w.ownsRow base 9 1 (.slice (some ⟨g,0,none⟩) k b) k (ru ss))(hl:ss.length=k):qc w g ss:=by
 refine⟨(h.lt g rfl).2,λi a=>?_⟩;rw[h.cellAt i O0];simp[ru,a]
theorem Ik{e:TypeId}{size:Nat}{v:Value}{n:Nat}{xs:List Value}(h:w.ownsRow base e size v n xs)(hn:0<n):∃g a,v=.slice (some ⟨g,0,none⟩) n a:=by
 rcases h.2 with⟨_,h0⟩|⟨g,b,cur,hv,_⟩
 ·omega
 exact⟨g,b,hv⟩
theorem yc{s:BY}(h:s.data.toList=l):s=Y2 l:=by
 apply mg;unfold Y2;rw[<- h]
theorem Ib(s:BY)(a b:Nat):(s.extract a b).data.toList=(s.data.toList.take b).drop a:=by
 rw[ByteArray.data_extract,Array.toList_extract,lQ,QI]
theorem mQ(s:BY)(b:UInt8)(w:World)(hs:s.size<=1048700):
 Calls prog 147 #[.string s,.int .u8 b.toNat] w λe w'=>(∃g o,e=.returned (.slice (some ⟨g,0,none⟩) (L8 b s.data.toList).length o)/\w.heap.size<=g/\qc w' g (L8 b s.data.toList))/\Bw w w':=by
 obtain⟨z,H,C,B,A⟩:=info_parts info9;have hlen:s.data.toList.length=s.size:=O4
 go_in
 go_wp2;go_loopw[5,6,7] (λv fr i wr=>∃(k f:Nat),k<=s.size/\f<=k/\i=.int .i64 k/\fr=.int .i64 f/\wr.ownsRow w.heap.size 9 1 v (Z7 b (s.data.toList.take k)).1.length (ru (Z7 b (s.data.toList.take k)).1)/\Hid ((s.data.toList.take k).drop f=(Z7 b (s.data.toList.take k)).2)/\Below w.heap.size w wr/\w.heap.size+1<=wr.heap.size) (λ_ _ i _=>s.size-(RowKit.intOf i).toNat);exact⟨0,0,I4 _,J9 _,rfl,rfl,Iu _ #[] 0 Y8 (I4 _) rfl,rfl,P6,O4⟩;obtain⟨k,f,hk,hf,rfl,rfl,c,d,h,J⟩:=hrel;have hL:(Z7 b (s.data.toList.take k)).1.length<=k:=by
  have:=dw b (s.data.toList.take k);rw[L_]at this;omega
 by_cases E:k<s.size
 ·have p:Hid (Z7 b (s.data.toList.take (k+1))=cst b (Z7 b (s.data.toList.take k)) s[k]):=by rw[take_snoc s k E,Po];rfl
  have t:Hid (s.extract f k=Y2 (Z7 b (s.data.toList.take k)).2):=yc (by rw[Ib];exact d.out);by_cases hc:s[k]=b
  ·have e1:((s[k].toNat:Int)==(b.toNat:Int))=true:=by rw[hc];simp
   have l:Hid (cst b (Z7 b (s.data.toList.take k)) s[k]=((Z7 b (s.data.toList.take k)).1++[(Z7 b (s.data.toList.take k)).2],[])):=by unfold cst;rw[if_pos hc];rfl
   have x:Hid ((s.data.toList.take (k+1)).drop (k+1)=[]):=Yq X7;clear hc d;generalize Z7 b (s.data.toList.take k)=st at*
   go_wp2_with(at_builtin;refine wpList_append_own _ rfl _ _ 22 rfl w.heap.size 9 z (.string ⟨#[]⟩) 1 16 underlying22 H C B A rfl J6 _ _ _ rfl (c.alloc _) ⟨wr.heap.size,0,none⟩ 1 1 [_] rfl rfl (cell_one_new _ _ _) (by intro u a;simp at a;subst a;rfl) (by unfold maxLen;omega) O0 X7 ?_;intro v' y m n _)
   go_roundw
   ·have r:=(h.alloc h.size _).grown n X7 (λj q=>(c.lt j q).1);refine⟨k+1,k+1,O0,J9 _,by go_num,by go_num,?_,?_,r,by have:=n.size;simp at this;omega⟩
    ·rw[p.out,l.out,L9,Zf,<- t.out];exact m
    rw[p.out,l.out];exact x.out
   exact P9
  have e1:((s[k].toNat:Int)==(b.toNat:Int))=false:=by
   simp only[K_];intro e;exact hc (Zh.1 O0)
  have l:Hid (cst b (Z7 b (s.data.toList.take k)) s[k]=((Z7 b (s.data.toList.take k)).1,(Z7 b (s.data.toList.take k)).2++[s[k]])):=by unfold cst;rw[if_neg hc];rfl
  have x:Hid ((s.data.toList.take (k+1)).drop f=(s.data.toList.take k).drop f++[s[k]]):=by rw[take_snoc s k E,yI X7];rfl
  clear hc;generalize Z7 b (s.data.toList.take k)=st at*;go_wp2;go_roundw
  ·refine⟨k+1,f,O0,O0,by go_num,rfl,?_,?_,h,J⟩
   ·rw[p.out,l.out];exact c
   rw[p.out,l.out,x.out,d.out];rfl
  exact P9
 have L:Hid (s.data.toList.take k=s.data.toList):=p_ O0;have t:Hid (s.extract f s.size=Y2 (Z7 b (s.data.toList.take k)).2):=yc (by rw[Ib,<- show k=s.size by omega];exact d.out);have I:Hid (L8 b s.data.toList=(Z7 b (s.data.toList.take k)).1++[(Z7 b (s.data.toList.take k)).2]):=by rw[L.out];rfl
 clear d;generalize Z7 b (s.data.toList.take k)=st at*
 go_wp2_with(at_builtin;refine wpList_append_own _ rfl _ _ 22 rfl w.heap.size 9 z (.string ⟨#[]⟩) 1 16 underlying22 H C B A rfl J6 _ _ _ rfl (c.alloc _) ⟨wr.heap.size,0,none⟩ 1 1 [_] rfl rfl (cell_one_new _ _ _) (by intro u a;simp at a;subst a;rfl) (by unfold maxLen;omega) O0 X7 ?_;intro v' y m n _;obtain⟨g,o,K⟩:=Ik m O0;subst K)
 go_ret;have r:=(h.alloc h.size _).grown n X7 (λj q=>(c.lt j q).1);have D:y.ownsRow w.heap.size 9 1 (vL (some (aA g 0)) (st.1.length+1) o) (st.1.length+1) (ru (L8 b s.data.toList)):=by
  rw[I.out,Zf,<- t.out];exact m
 have F:(L8 b s.data.toList).length=st.1.length+1:=by rw[I.out];simp
 refine⟨⟨g,o,by rw[F];rfl,(D.lt g rfl).1,Eh D F⟩,r⟩
def O1(l:List UInt8):List UInt8:=l.takeWhile (· !=32)
def Y1(l:List UInt8):List UInt8:=(l.dropWhile (· !=32)).drop 1
theorem Pm(ha:(l.take k).all (· !=32)=true)(_hk:k<=l.length)(he:k=l.length\/l.getD k 0=32):O1 l=l.take k/\Y1 l=l.drop (k+1):=by
 have h:l.takeWhile (· !=32)=l.take k/\l.dropWhile (· !=32)=l.drop k:=by
  rcases P7 k l.length with c|d
  ·have hx:l[k]=32:=by
    rcases he with he|he
    ·omega
    simpa[c]using he
   have e:l=l.take k++l[k]::l.drop (k+1):=by rw[<- jA c,Qk]
   have b:∀a∈l.take k,(a !=32)=true:=λa h=>Oo.1 ha a h;constructor
   ·conv=>lhs;rw[e]
    rw[wP b,hx];simp
   conv=>lhs;rw[e]
   rw[wR b,hx];rw[jA c,hx];simp
  rw[p_ d]at ha;rw[p_ d,Yq d];have b:∀a∈l,(a !=32)=true:=λa h=>Oo.1 ha a h;have:=wP (l₂:=[]) b;have h2:=wR (l₂:=[]) b;simp only[Gv,List.takeWhile_nil,List.dropWhile_nil]at this h2;exact⟨this,h2⟩
 refine⟨h.1,?_⟩;unfold Y1;rw[h.2,mF]
theorem GN(c:UInt8):M_ c=true↔32<=c.toNat/\c.toNat<=126/\c.toNat≠34/\c.toNat≠92:=by
 unfold M_;simp only[X_,Zc,FI,K_];omega
theorem JQ:∀a b:Fin 16,hexL.getD a.val 0=hexL.getD b.val 0->a=b:=J6
theorem jy{a:Nat}(ha:a<16)(c:b<16)(h:hexL.getD a 0=hexL.getD b 0):a=b:=by
 have:=JQ ⟨a,ha⟩ ⟨b,c⟩ h;exact Fin.mk.inj this
theorem ou(c:UInt8):c.toNat<256:=c.toNat_lt
theorem Df(h:M_ c=true):qb c=[c]:=by unfold qb;rw[if_pos h]
theorem Uf(h:M_ c=false):qb c=[92,hexL.getD (c.toNat / 16) 0,hexL.getD (c.toNat % 16) 0]:=by unfold qb;rw[if_neg (by simp[h])]
theorem Oy:M_ 92=false:=J6
theorem gK(c:UInt8):qb c≠[]:=by
 cases h:M_ c
 ·rw[Uf h];simp
 rw[Df h];simp
theorem a0c{d:UInt8}{r q:List UInt8}(h:qb c++r=qb d++q):c=d/\r=q:=by
 cases hc:M_ c<;>cases hd:M_ d
 ·rw[Uf hc,Uf hd]at h;simp only[Ff,Qb,qi,Ey]at h;obtain⟨h1,h2,a⟩:=h;have lc:=ou c;have ld:=ou d;have e1:=jy O0 O0 h1;have e2:=jy O0 O0 h2;exact⟨Zh.1 O0,a⟩
 ·rw[Uf hc,Df hd]at h;simp only[Ff,Qb,qi]at h;rw[<- h.1,Oy]at hd;cases hd
 ·rw[Df hc,Uf hd]at h;simp only[Ff,Qb,qi]at h;rw[h.1,Oy]at hc;cases hc
 rw[Df hc,Df hd]at h;simpa using h
theorem gG{R:List UInt8}(h:t.flatMap qb++R=l.flatMap qb):∃r,R=r.flatMap qb/\l=t++r:=by
 induction t generalizing l with
 | nil=>exact⟨l,by simpa using h,rfl⟩
 | cons c t ih=>
  cases l with
  | nil=>
   have:=gK c;simp at h;exact absurd h.1 this
  | cons d l=>
   simp only[Ag,Jq]at h;obtain⟨rfl,h2⟩:=a0c h;obtain⟨r,hr,hl⟩:=ih h2;exact⟨r,hr,by rw[hl];rfl⟩
theorem mP(h:t.flatMap qb=l.flatMap qb):t=l:=by
 obtain⟨r,hr,hl⟩:=gG (t:=t) (l:=l) (R:=[]) (by simpa using h)
 cases r with
 | nil=>simpa using hl.symm
 | cons c r=>
  have:=gK c;simp at hr;exact absurd hr.1 this
theorem Yl(h:J5 t=J5 l):t=l:=by
 unfold J5 at h;simp only[qi,Ey,xQ]at h;exact mP h
theorem wW(l:List UInt8):l.length<=(l.flatMap qb).length:=by
 induction l with
 | nil=>simp
 | cons c l ih=>
  have:1<=(qb c).length:=Us.2 (gK c);simp only[Ag,L9,x_];omega
theorem Gn(l:List UInt8):l.length+2<=(J5 l).length:=by
 have:=wW l;unfold J5;simp only[List.length_cons,List.length_append,List.length_nil];omega
theorem OC:∀a:Fin 16,hexL.getD a.val 0≠10/\hexL.getD a.val 0≠32:=J6
theorem YV(c:UInt8):(10:UInt8)∉qb c:=by
 cases h:M_ c
 ·rw[Uf h];have lc:=ou c;have h1:=(OC ⟨c.toNat / 16,O0⟩).1;have h2:=(OC ⟨c.toNat % 16,O0⟩).1;simp only[je,Vm,or_false,lm];exact⟨J6,λe=>h1 e.symm,λe=>h2 e.symm⟩
 rw[Df h];have:=(GN c).1 h;simp only[je,Vm,or_false];intro e;rw[<- e]at this;simp at this
theorem Zi(l:List UInt8):(10:UInt8)∉J5 l:=by
 unfold J5;simp only[je,Cf,fF,Vm,or_false,lm];refine⟨J6,λ⟨c,_,h⟩=>YV c h,J6⟩
