import Derived.Test.YtkccjgajimjjdaaGreatDooreB5
set_option linter.unusedVariables false
set_option maxHeartbeats 8000000
set_option maxRecDepth 100000
namespace Go.Proofs.YtkccjgajimjjdaaGreatDoor
open Proofs.Tryz Go.RowKit
variable{w:World}{base g k:Nat}{ss:List (List UInt8)}{l t:List UInt8}{c:UInt8}
def cst(b:UInt8)(p:List (List UInt8)×List UInt8)(c:UInt8):List (List UInt8)×List UInt8:=if c=b then(p.1++[p.2],[]) else(p.1,p.2++[c])
def V8(b:UInt8)(l:List UInt8):List (List UInt8)×List UInt8:=l.foldl (cst b) ([],[])
def x9(b:UInt8)(l:List UInt8):List (List UInt8):=(V8 b l).1++[(V8 b l).2]
theorem iq(b:UInt8)(l:List UInt8)(c:UInt8):V8 b (l++[c])=cst b (V8 b l) c:=by simp[V8]
theorem oJ(b:UInt8)(l:List UInt8)(p:List (List UInt8)×List UInt8):(l.foldl (cst b) p).1.length<=p.1.length+l.length:=by
 induction l generalizing p with
 | nil=>simp
 | cons c l ih=>
  have:=ih (cst b p c);have h2:(cst b p c).1.length<=p.1.length+1:=by unfold cst;split<;>simp
  simp only[pq,u_];omega
theorem Hw(b:UInt8)(l:List UInt8):(V8 b l).1.length<=l.length:=by have:=oJ b l ([],[]);simpa[V8]using this
def ku(ss:List (List UInt8)):List Value:=ss.map λl=>.string (I4 l)
theorem Eg(ss:List (List UInt8))(l:List UInt8):ku (ss++[l])=ku ss++[.string (I4 l)]:=by simp[ku]
def Oc(w:World)(g:Nat)(ss:List (List UInt8)):Prop:=g<w.heap.size/\∀i,i<ss.length->w.cell? ⟨g,i,none⟩=some (.string (I4 (ss.getD i [])))
theorem Bg{w':World}(h:Oc w g ss)(a:Bw w w'):Oc w' g ss:=
 ⟨U9 h.1 a.size,λi b=>by rw[a.cell (by exact h.1)];exact h.2 i b⟩
theorem Zh{cp:Nat}(h:w.ownsRow base 9 1 (.slice (some ⟨g,0,none⟩) k cp) k (ku ss))(hl:ss.length=k):Oc w g ss:=by
 refine⟨(h.lt g rfl).2,λi a=>?_⟩;rw[h.cellAt i O0];simp[ku,a]
theorem Wl{e:TypeId}{size:Nat}{v:Value}{n:Nat}{xs:List Value}(h:w.ownsRow base e size v n xs)(hn:0<n):∃g cp,v=.slice (some ⟨g,0,none⟩) n cp:=by
 rcases h.2 with⟨_,h0⟩|⟨g,cap,cur,hv,_⟩
 ·omega
 exact⟨g,cap,hv⟩
theorem Tc{s:BY}(h:s.data.toList=l):s=I4 l:=by
 apply Xf;unfold I4;rw[<- h]
theorem Ac(s:BY)(a b:Nat):(s.extract a b).data.toList=(s.data.toList.take b).drop a:=by
 rw[ByteArray.data_extract,Array.toList_extract,RU,RJ]
theorem YR(s:BY)(b:UInt8)(w:World)(hs:s.size<=1048700):
 Calls prog 123 #[.string s,.int .u8 b.toNat] w λe w'=>(∃g cp,e=.returned (.slice (some ⟨g,0,none⟩) (x9 b s.data.toList).length cp)/\w.heap.size<=g/\Oc w' g (x9 b s.data.toList))/\Bw w w':=by
 obtain⟨y,F,B,A,z⟩:=info_parts info9;have hlen:s.data.toList.length=s.size:=E5
 go_in
 go_wp2;go_loopw[5,6,7] (λv fr i wr=>∃(k f:Nat),k<=s.size/\f<=k/\i=.int .i64 k/\fr=.int .i64 f/\wr.ownsRow w.heap.size 9 1 v (V8 b (s.data.toList.take k)).1.length (ku (V8 b (s.data.toList.take k)).1)/\Hid ((s.data.toList.take k).drop f=(V8 b (s.data.toList.take k)).2)/\Below w.heap.size w wr/\w.heap.size+1<=wr.heap.size) (λ_ _ i _=>s.size-(RowKit.intOf i).toNat);exact⟨0,0,J4 _,J8 _,rfl,rfl,Tv _ #[] 0 X7 (J4 _) rfl,rfl,Y6,E5⟩;obtain⟨k,f,hk,hf,rfl,rfl,c,d,h,hz⟩:=hrel;have hL:(V8 b (s.data.toList.take k)).1.length<=k:=by
  have:=Hw b (s.data.toList.take k);rw[U_]at this;omega
 by_cases D:k<s.size
 ·have o:Hid (V8 b (s.data.toList.take (k+1))=cst b (V8 b (s.data.toList.take k)) s[k]):=by rw[take_snoc s k D,iq];rfl
  have r:Hid (s.extract f k=I4 (V8 b (s.data.toList.take k)).2):=Tc (by rw[Ac];exact d.out);by_cases hc:s[k]=b
  ·have e1:((s[k].toNat:Int)==(b.toNat:Int))=true:=by rw[hc];simp
   have l:Hid (cst b (V8 b (s.data.toList.take k)) s[k]=((V8 b (s.data.toList.take k)).1++[(V8 b (s.data.toList.take k)).2],[])):=by unfold cst;rw[if_pos hc];rfl
   have t:Hid ((s.data.toList.take (k+1)).drop (k+1)=[]):=Es Q8;clear hc d;generalize V8 b (s.data.toList.take k)=st at*
   go_wp2_with(at_builtin;refine wpList_append_own _ rfl _ _ 22 rfl w.heap.size 9 y (.string ⟨#[]⟩) 1 16 underlying22 F B A z rfl Z5 _ _ _ rfl (c.alloc _) ⟨wr.heap.size,0,none⟩ 1 1 [_] rfl rfl (cell_one_new _ _ _) (by intro u a;simp at a;subst a;rfl) (by unfold maxLen;omega) O0 Q8 ?_;intro v' x m n _)
   go_roundw
   ·have q:=(h.alloc h.size _).grown n Q8 (λj p=>(c.lt j p).1);refine⟨k+1,k+1,O0,J8 _,by go_num,by go_num,?_,?_,q,by have:=n.size;simp at this;omega⟩
    ·rw[o.out,l.out,P9,Eg,<- r.out];exact m
    rw[o.out,l.out];exact t.out
   exact Z9
  have e1:((s[k].toNat:Int)==(b.toNat:Int))=false:=by
   simp only[V_];intro e;exact hc (Wi.1 O0)
  have l:Hid (cst b (V8 b (s.data.toList.take k)) s[k]=((V8 b (s.data.toList.take k)).1,(V8 b (s.data.toList.take k)).2++[s[k]])):=by unfold cst;rw[if_neg hc];rfl
  have t:Hid ((s.data.toList.take (k+1)).drop f=(s.data.toList.take k).drop f++[s[k]]):=by rw[take_snoc s k D,JJ Q8];rfl
  clear hc;generalize V8 b (s.data.toList.take k)=st at*;go_wp2;go_roundw
  ·refine⟨k+1,f,O0,O0,by go_num,rfl,?_,?_,h,hz⟩
   ·rw[o.out,l.out];exact c
   rw[o.out,l.out,t.out,d.out];rfl
  exact Z9
 have J:Hid (s.data.toList.take k=s.data.toList):=C_ O0;have r:Hid (s.extract f s.size=I4 (V8 b (s.data.toList.take k)).2):=Tc (by rw[Ac,<- show k=s.size by omega];exact d.out);have H:Hid (x9 b s.data.toList=(V8 b (s.data.toList.take k)).1++[(V8 b (s.data.toList.take k)).2]):=by rw[J.out];rfl
 clear d;generalize V8 b (s.data.toList.take k)=st at*
 go_wp2_with(at_builtin;refine wpList_append_own _ rfl _ _ 22 rfl w.heap.size 9 y (.string ⟨#[]⟩) 1 16 underlying22 F B A z rfl Z5 _ _ _ rfl (c.alloc _) ⟨wr.heap.size,0,none⟩ 1 1 [_] rfl rfl (cell_one_new _ _ _) (by intro u a;simp at a;subst a;rfl) (by unfold maxLen;omega) O0 Q8 ?_;intro v' x m n _;obtain⟨g,cp,I⟩:=Wl m O0;subst I)
 go_ret;have q:=(h.alloc h.size _).grown n Q8 (λj p=>(c.lt j p).1);have C:x.ownsRow w.heap.size 9 1 (vL (some (aA g 0)) (st.1.length+1) cp) (st.1.length+1) (ku (x9 b s.data.toList)):=by
  rw[H.out,Eg,<- r.out];exact m
 have E:(x9 b s.data.toList).length=st.1.length+1:=by rw[H.out];simp
 refine⟨⟨g,cp,by rw[E];rfl,(C.lt g rfl).1,Zh C E⟩,q⟩
def Y2(l:List UInt8):List UInt8:=l.takeWhile (· !=32)
def J3(l:List UInt8):List UInt8:=(l.dropWhile (· !=32)).drop 1
theorem Zm(ha:(l.take k).all (· !=32)=true)(_hk:k<=l.length)(he:k=l.length\/l.getD k 0=32):Y2 l=l.take k/\J3 l=l.drop (k+1):=by
 have h:l.takeWhile (· !=32)=l.take k/\l.dropWhile (· !=32)=l.drop k:=by
  rcases D8 k l.length with c|d
  ·have hx:l[k]=32:=by
    rcases he with he|he
    ·omega
    simpa[c]using he
   have e:l=l.take k++l[k]::l.drop (k+1):=by rw[<- YA c,um]
   have b:∀a∈l.take k,(a !=32)=true:=λa h=>Yp.1 ha a h;constructor
   ·conv=>lhs;rw[e]
    rw[XQ b,hx];simp
   conv=>lhs;rw[e]
   rw[nR b,hx];rw[YA c,hx];simp
  rw[C_ d]at ha;rw[C_ d,Es d];have b:∀a∈l,(a !=32)=true:=λa h=>Yp.1 ha a h;have:=XQ (l₂:=[]) b;have h2:=nR (l₂:=[]) b;simp only[Ot,List.takeWhile_nil,List.dropWhile_nil]at this h2;exact⟨this,h2⟩
 refine⟨h.1,?_⟩;unfold J3;rw[h.2,XE]
theorem EO(c:UInt8):T_ c=true↔32<=c.toNat/\c.toNat<=126/\c.toNat≠34/\c.toNat≠92:=by
 unfold T_;simp only[Ia,rf,UJ,V_];omega
theorem OQ:∀a b:Fin 16,hexL.getD a.val 0=hexL.getD b.val 0->a=b:=Z5
theorem Ky{a b:Nat}(ha:a<16)(c:b<16)(h:hexL.getD a 0=hexL.getD b 0):a=b:=by
 have:=OQ ⟨a,ha⟩ ⟨b,c⟩ h;exact Fin.mk.inj this
theorem Eu(c:UInt8):c.toNat<256:=c.toNat_lt
theorem bg(h:T_ c=true):qb c=[c]:=by unfold qb;rw[if_pos h]
theorem xg(h:T_ c=false):qb c=[92,hexL.getD (c.toNat / 16) 0,hexL.getD (c.toNat % 16) 0]:=by unfold qb;rw[if_neg (by simp[h])]
theorem Qz:T_ 92=false:=Z5
theorem NK(c:UInt8):qb c≠[]:=by
 cases h:T_ c
 ·rw[xg h];simp
 rw[bg h];simp
theorem a0N{d:UInt8}{r q:List UInt8}(h:qb c++r=qb d++q):c=d/\r=q:=by
 cases hc:T_ c<;>cases hd:T_ d
 ·rw[xg hc,xg hd]at h;simp only[Zf,j_,Xi,Rz]at h;obtain⟨h1,h2,a⟩:=h;have lc:=Eu c;have ld:=Eu d;have e1:=Ky O0 O0 h1;have e2:=Ky O0 O0 h2;exact⟨Wi.1 O0,a⟩
 ·rw[xg hc,bg hd]at h;simp only[Zf,j_,Xi]at h;rw[<- h.1,Qz]at hd;cases hd
 ·rw[bg hc,xg hd]at h;simp only[Zf,j_,Xi]at h;rw[h.1,Qz]at hc;cases hc
 rw[bg hc,bg hd]at h;simpa using h
theorem rH{R:List UInt8}(h:t.flatMap qb++R=l.flatMap qb):∃r,R=r.flatMap qb/\l=t++r:=by
 induction t generalizing l with
 | nil=>exact⟨l,by simpa using h,rfl⟩
 | cons c t ih=>
  cases l with
  | nil=>
   have:=NK c;simp at h;exact absurd h.1 this
  | cons d l=>
   simp only[Hg,Zr]at h;obtain⟨rfl,h2⟩:=a0N h;obtain⟨r,hr,hl⟩:=ih h2;exact⟨r,hr,by rw[hl];rfl⟩
theorem IQ(h:t.flatMap qb=l.flatMap qb):t=l:=by
 obtain⟨r,hr,hl⟩:=rH (t:=t) (l:=l) (R:=[]) (by simpa using h)
 cases r with
 | nil=>simpa using hl.symm
 | cons c r=>
  have:=NK c;simp at hr;exact absurd hr.1 this
theorem Um(h:J6 t=J6 l):t=l:=by
 unfold J6 at h;simp only[Xi,Rz,kU]at h;exact IQ h
theorem WW(l:List UInt8):l.length<=(l.flatMap qb).length:=by
 induction l with
 | nil=>simp
 | cons c l ih=>
  have:1<=(qb c).length:=Rl.2 (NK c);simp only[Hg,P9,u_];omega
theorem Zo(l:List UInt8):l.length+2<=(J6 l).length:=by
 have:=WW l;unfold J6;simp only[List.length_cons,List.length_append,List.length_nil];omega
theorem MC:∀a:Fin 16,hexL.getD a.val 0≠10/\hexL.getD a.val 0≠32:=Z5
theorem LV(c:UInt8):(10:UInt8)∉qb c:=by
 cases h:T_ c
 ·rw[xg h];have lc:=Eu c;have h1:=(MC ⟨c.toNat / 16,O0⟩).1;have h2:=(MC ⟨c.toNat % 16,O0⟩).1;simp only[Xe,Ho,or_false,zo];exact⟨Z5,λe=>h1 e.symm,λe=>h2 e.symm⟩
 rw[bg h];have:=(EO c).1 h;simp only[Xe,Ho,or_false];intro e;rw[<- e]at this;simp at this
theorem Vj(l:List UInt8):(10:UInt8)∉J6 l:=by
 unfold J6;simp only[Xe,Dh,Gv,Ho,or_false,zo];refine⟨Z5,λ⟨c,_,h⟩=>LV c h,Z5⟩
theorem a5j(n:Int)(w:World):
 Calls prog 161 #[.int .i64 n] w λe w'=>e=.returned (.bool (decide (1<=n/\n<=200)))/\w'=w:=by
 by_cases h1:1<=n<;>by_cases h2:n<=200
 all_goals
  go_in
  go_wp2
  all_goals go_ret
  all_goals exact⟨by simp[*],rfl⟩
