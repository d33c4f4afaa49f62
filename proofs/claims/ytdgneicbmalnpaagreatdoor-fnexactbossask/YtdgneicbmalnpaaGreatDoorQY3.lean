import Derived.Test.YtdgneicbmalnpaaGreatDooreB5
set_option linter.all false
set_option maxHeartbeats 0
set_option maxRecDepth 99999
namespace Go.Proofs.YtdgneicbmalnpaaGreatDoor
open Proofs.Tryz Go.RowKit
variable{w:World}{base g k:Nat}{ss:List (List UInt8)}{l t:List UInt8}{c:UInt8}
def cst(b:UInt8)(p:List (List UInt8)×List UInt8)(c:UInt8):List (List UInt8)×List UInt8:=if c=b then(p.1++[p.2],[]) else(p.1,p.2++[c])
def P8(b:UInt8)(l:List UInt8):List (List UInt8)×List UInt8:=l.foldl (cst b) ([],[])
def Z8(b:UInt8)(l:List UInt8):List (List UInt8):=(P8 b l).1++[(P8 b l).2]
theorem Dq(b:UInt8)(l:List UInt8)(c:UInt8):P8 b (l++[c])=cst b (P8 b l) c:=by simp[P8]
theorem wJ(b:UInt8)(l:List UInt8)(p:List (List UInt8)×List UInt8):(l.foldl (cst b) p).1.length<=p.1.length+l.length:=by
 induction l generalizing p with
 | nil=>simp
 | cons c l ih=>
  have:=ih (cst b p c);have h2:(cst b p c).1.length<=p.1.length+1:=by unfold cst;split<;>simp
  simp only[Tq,f_];omega
theorem Xw(b:UInt8)(l:List UInt8):(P8 b l).1.length<=l.length:=by have:=wJ b l ([],[]);simpa[P8]using this
def Ou(ss:List (List UInt8)):List Value:=ss.map λl=>.string (U3 l)
theorem Pg(ss:List (List UInt8))(l:List UInt8):Ou (ss++[l])=Ou ss++[.string (U3 l)]:=by simp[Ou]
def Tc(w:World)(g:Nat)(ss:List (List UInt8)):Prop:=g<w.heap.size/\∀i,i<ss.length->w.cell? ⟨g,i,none⟩=some (.string (U3 (ss.getD i [])))
theorem Qg{w':World}(h:Tc w g ss)(a:Bw w w'):Tc w' g ss:=
 ⟨P9 h.1 a.size,λi b=>by rw[a.cell (by exact h.1)];exact h.2 i b⟩
theorem Ei{cp:Nat}(h:w.ownsRow base 9 1 (.slice (some ⟨g,0,none⟩) k cp) k (Ou ss))(hl:ss.length=k):Tc w g ss:=by
 refine⟨(h.lt g rfl).2,λi a=>?_⟩;rw[h.cellAt i O0];simp[Ou,a]
theorem um{e:TypeId}{size:Nat}{v:Value}{n:Nat}{xs:List Value}(h:w.ownsRow base e size v n xs)(hn:0<n):∃g cp,v=.slice (some ⟨g,0,none⟩) n cp:=by
 rcases h.2 with⟨_,h0⟩|⟨g,cap,cur,hv,_⟩
 ·omega
 exact⟨g,cap,hv⟩
theorem Uc{s:BY}(h:s.data.toList=l):s=U3 l:=by
 apply jg;unfold U3;rw[<- h]
theorem Ac(s:BY)(a b:Nat):(s.extract a b).data.toList=(s.data.toList.take b).drop a:=by
 rw[ByteArray.data_extract,Array.toList_extract,dU,qK]
theorem c146(s:BY)(b:UInt8)(w:World)(hs:s.size<=1048700):
 Calls prog 146 #[.string s,.int .u8 b.toNat] w λe w'=>(∃g cp,e=.returned (.slice (some ⟨g,0,none⟩) (Z8 b s.data.toList).length cp)/\w.heap.size<=g/\Tc w' g (Z8 b s.data.toList))/\Bw w w':=by
 obtain⟨y,F,B,A,z⟩:=info_parts info9;have hlen:s.data.toList.length=s.size:=J4
 go_in
 go_wp2;go_loopw[5,6,7] (λv fr i wr=>∃(k f:Nat),k<=s.size/\f<=k/\i=.int .i64 k/\fr=.int .i64 f/\wr.ownsRow w.heap.size 9 1 v (P8 b (s.data.toList.take k)).1.length (Ou (P8 b (s.data.toList.take k)).1)/\Hid ((s.data.toList.take k).drop f=(P8 b (s.data.toList.take k)).2)/\Below w.heap.size w wr/\w.heap.size+1<=wr.heap.size) (λ_ _ i _=>s.size-(RowKit.intOf i).toNat);exact⟨0,0,Y4 _,Y7 _,rfl,rfl,ax _ #[] 0 A8 (Y4 _) rfl,rfl,U6,J4⟩;obtain⟨k,f,hk,hf,rfl,rfl,c,d,h,hz⟩:=hrel;have hL:(P8 b (s.data.toList.take k)).1.length<=k:=by
  have:=Xw b (s.data.toList.take k);rw[L_]at this;omega
 by_cases D:k<s.size
 ·have o:Hid (P8 b (s.data.toList.take (k+1))=cst b (P8 b (s.data.toList.take k)) s[k]):=by rw[take_snoc s k D,Dq];rfl
  have r:Hid (s.extract f k=U3 (P8 b (s.data.toList.take k)).2):=Uc (by rw[Ac];exact d.o);by_cases hc:s[k]=b
  ·have e1:((s[k].toNat:Int)==(b.toNat:Int))=true:=by rw[hc];simp
   have l:Hid (cst b (P8 b (s.data.toList.take k)) s[k]=((P8 b (s.data.toList.take k)).1++[(P8 b (s.data.toList.take k)).2],[])):=by unfold cst;rw[if_pos hc];rfl
   have t:Hid ((s.data.toList.take (k+1)).drop (k+1)=[]):=Ht L8;clear hc d;generalize P8 b (s.data.toList.take k)=st at*
   go_wp2_with(at_builtin;refine wpList_append_own _ rfl _ _ 22 rfl w.heap.size 9 y (.string ⟨#[]⟩) 1 16 underlying22 F B A z rfl U5 _ _ _ rfl (c.alloc _) ⟨wr.heap.size,0,none⟩ 1 1 [_] rfl rfl (cell_one_new _ _ _) (by intro u a;simp at a;subst a;rfl) (by unfold maxLen;omega) O0 L8 ?_;intro v' x m n _)
   go_roundw
   ·have q:=(h.alloc h.size _).grown n L8 (λj p=>(c.lt j p).1);refine⟨k+1,k+1,O0,Y7 _,by go_num,by go_num,?_,?_,q,by have:=n.size;simp at this;omega⟩
    ·rw[o.o,l.o,Q9,Pg,<- r.o];exact m
    rw[o.o,l.o];exact t.o
   exact V9
  have e1:((s[k].toNat:Int)==(b.toNat:Int))=false:=by
   simp only[S_];intro e;exact hc (uj.1 O0)
  have l:Hid (cst b (P8 b (s.data.toList.take k)) s[k]=((P8 b (s.data.toList.take k)).1,(P8 b (s.data.toList.take k)).2++[s[k]])):=by unfold cst;rw[if_neg hc];rfl
  have t:Hid ((s.data.toList.take (k+1)).drop f=(s.data.toList.take k).drop f++[s[k]]):=by rw[take_snoc s k D,YJ L8];rfl
  clear hc;generalize P8 b (s.data.toList.take k)=st at*;go_wp2;go_roundw
  ·refine⟨k+1,f,O0,O0,by go_num,rfl,?_,?_,h,hz⟩
   ·rw[o.o,l.o];exact c
   rw[o.o,l.o,t.o,d.o];rfl
  exact V9
 have J:Hid (s.data.toList.take k=s.data.toList):=p_ O0;have r:Hid (s.extract f s.size=U3 (P8 b (s.data.toList.take k)).2):=Uc (by rw[Ac,<- show k=s.size by omega];exact d.o);have H:Hid (Z8 b s.data.toList=(P8 b (s.data.toList.take k)).1++[(P8 b (s.data.toList.take k)).2]):=by rw[J.o];rfl
 clear d;generalize P8 b (s.data.toList.take k)=st at*
 go_wp2_with(at_builtin;refine wpList_append_own _ rfl _ _ 22 rfl w.heap.size 9 y (.string ⟨#[]⟩) 1 16 underlying22 F B A z rfl U5 _ _ _ rfl (c.alloc _) ⟨wr.heap.size,0,none⟩ 1 1 [_] rfl rfl (cell_one_new _ _ _) (by intro u a;simp at a;subst a;rfl) (by unfold maxLen;omega) O0 L8 ?_;intro v' x m n _;obtain⟨g,cp,I⟩:=um m O0;subst I)
 go_ret;have q:=(h.alloc h.size _).grown n L8 (λj p=>(c.lt j p).1);have C:x.ownsRow w.heap.size 9 1 (vL (some (aA g 0)) (st.1.length+1) cp) (st.1.length+1) (Ou (Z8 b s.data.toList)):=by
  rw[H.o,Pg,<- r.o];exact m
 have E:(Z8 b s.data.toList).length=st.1.length+1:=by rw[H.o];simp
 refine⟨⟨g,cp,by rw[E];rfl,(C.lt g rfl).1,Ei C E⟩,q⟩
def Y1(l:List UInt8):List UInt8:=l.takeWhile (· !=32)
def Y2(l:List UInt8):List UInt8:=(l.dropWhile (· !=32)).drop 1
theorem Ho(ha:(l.take k).all (· !=32)=true)(_hk:k<=l.length)(he:k=l.length\/l.getD k 0=32):Y1 l=l.take k/\Y2 l=l.drop (k+1):=by
 have h:l.takeWhile (· !=32)=l.take k/\l.dropWhile (· !=32)=l.drop k:=by
  rcases Z7 k l.length with c|d
  ·have hx:l[k]=32:=by
    rcases he with he|he
    ·omega
    simpa[c]using he
   have e:l=l.take k++l[k]::l.drop (k+1):=by rw[<- Ky c,Zk]
   have b:∀a∈l.take k,(a !=32)=true:=λa h=>Uo.1 ha a h;constructor
   ·conv=>lhs;rw[e]
    rw[dR b,hx];simp
   conv=>lhs;rw[e]
   rw[iR b,hx];rw[Ky c,hx];simp
  rw[p_ d]at ha;rw[p_ d,Ht d];have b:∀a∈l,(a !=32)=true:=λa h=>Uo.1 ha a h;have:=dR (l₂:=[]) b;have h2:=iR (l₂:=[]) b;simp only[Vt,List.takeWhile_nil,List.dropWhile_nil]at this h2;exact⟨this,h2⟩
 refine⟨h.1,?_⟩;unfold Y2;rw[h.2,kG]
theorem oO(c:UInt8):U_ c=true↔32<=c.toNat/\c.toNat<=126/\c.toNat≠34/\c.toNat≠92:=by
 unfold U_;simp only[Fa,Pe,bJ,S_];omega
theorem nV:∀a b:Fin 16,hexL.getD a.val 0=hexL.getD b.val 0->a=b:=U5
theorem Jz{a b:Nat}(ha:a<16)(c:b<16)(h:hexL.getD a 0=hexL.getD b 0):a=b:=by
 have:=nV ⟨a,ha⟩ ⟨b,c⟩ h;exact Fin.mk.inj this
theorem Nu(c:UInt8):c.toNat<256:=c.toNat_lt
theorem ng(h:U_ c=true):qb c=[c]:=by unfold qb;rw[if_pos h]
theorem Ag(h:U_ c=false):qb c=[92,hexL.getD (c.toNat / 16) 0,hexL.getD (c.toNat % 16) 0]:=by unfold qb;rw[if_neg (by simp[h])]
theorem KA:U_ 92=false:=U5
theorem nN(c:UInt8):qb c≠[]:=by
 cases h:U_ c
 ·rw[Ag h];simp
 rw[ng h];simp
theorem a0F{d:UInt8}{r q:List UInt8}(h:qb c++r=qb d++q):c=d/\r=q:=by
 cases hc:U_ c<;>cases hd:U_ d
 ·rw[Ag hc,Ag hd]at h;simp only[jd,Y9,Yi,yA]at h;obtain⟨h1,h2,a⟩:=h;have lc:=Nu c;have ld:=Nu d;have e1:=Jz O0 O0 h1;have e2:=Jz O0 O0 h2;exact⟨uj.1 O0,a⟩
 ·rw[Ag hc,ng hd]at h;simp only[jd,Y9,Yi]at h;rw[<- h.1,KA]at hd;cases hd
 ·rw[ng hc,Ag hd]at h;simp only[jd,Y9,Yi]at h;rw[h.1,KA]at hc;cases hc
 rw[ng hc,ng hd]at h;simpa using h
theorem tH{R:List UInt8}(h:t.flatMap qb++R=l.flatMap qb):∃r,R=r.flatMap qb/\l=t++r:=by
 induction t generalizing l with
 | nil=>exact⟨l,by simpa using h,rfl⟩
 | cons c t ih=>
  cases l with
  | nil=>
   have:=nN c;simp at h;exact absurd h.1 this
  | cons d l=>
   simp only[Xf,Tt]at h;obtain⟨rfl,h2⟩:=a0F h;obtain⟨r,hr,hl⟩:=ih h2;exact⟨r,hr,by rw[hl];rfl⟩
theorem IU(h:t.flatMap qb=l.flatMap qb):t=l:=by
 obtain⟨r,hr,hl⟩:=tH (t:=t) (l:=l) (R:=[]) (by simpa using h)
 cases r with
 | nil=>simpa using hl.symm
 | cons c r=>
  have:=nN c;simp at hr;exact absurd hr.1 this
theorem zn(h:Z5 t=Z5 l):t=l:=by
 unfold Z5 at h;simp only[Yi,yA,aV]at h;exact IU h
theorem UW(l:List UInt8):l.length<=(l.flatMap qb).length:=by
 induction l with
 | nil=>simp
 | cons c l ih=>
  have:1<=(qb c).length:=dm.2 (nN c);simp only[Xf,Q9,f_];omega
theorem Fp(l:List UInt8):l.length+2<=(Z5 l).length:=by
 have:=UW l;unfold Z5;simp only[List.length_cons,List.length_append,List.length_nil];omega
theorem UD:∀a:Fin 16,hexL.getD a.val 0≠10/\hexL.getD a.val 0≠32:=U5
theorem gW(c:UInt8):(10:UInt8)∉qb c:=by
 cases h:U_ c
 ·rw[Ag h];have lc:=Nu c;have h1:=(UD ⟨c.toNat / 16,O0⟩).1;have h2:=(UD ⟨c.toNat % 16,O0⟩).1;simp only[qf,Oo,or_false,Zm];exact⟨U5,λe=>h1 e.symm,λe=>h2 e.symm⟩
 rw[ng h];have:=(oO c).1 h;simp only[qf,Oo,or_false];intro e;rw[<- e]at this;simp at this
theorem Rj(l:List UInt8):(10:UInt8)∉Z5 l:=by
 unfold Z5;simp only[qf,Ph,Ox,Oo,or_false,Zm];refine⟨U5,λ⟨c,_,h⟩=>gW c h,U5⟩
theorem a6a(n:Int)(w:World):
 Calls prog 410 #[.int .i64 n] w λe w'=>e=.returned (.bool (decide (1<=n/\n<=200)))/\w'=w:=by
 by_cases h1:1<=n<;>by_cases h2:n<=200
 all_goals
  go_in
  go_wp2
  all_goals go_ret
  all_goals exact⟨by simp[*],rfl⟩
