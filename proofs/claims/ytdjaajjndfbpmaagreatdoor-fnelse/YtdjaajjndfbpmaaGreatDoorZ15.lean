import Derived.Test.YtdjaajjndfbpmaaGreatDoorRA
import Derived.Test.YtdjaajjndfbpmaaGreatDoorZ14
set_option linter.unusedVariables false
namespace Go.Proofs.YtdjaajjndfbpmaaGreatDoor
open Go.RowKit
def body (x:I3):List UInt8:=word x.op++Vj x++Yk x
theorem S9 (x:I3):V8 x=body x++[10]:=rfl
theorem bB:∀ i:Fin 12,(32:UInt8)∉word ((i.val:Nat):Int)/\(10:UInt8)∉word ((i.val:Nat):Int):=K3
theorem U_ (op:Int):(32:UInt8)∉word op/\(10:UInt8)∉word op:=by
 by_cases h:1<=op/\op<=11
 · obtain ⟨n,rfl⟩:=A8 (show 0<=op by omega)
   exact bB ⟨n,O0⟩
 rw [Fq op h];simp
theorem xD:∀ i j:Fin 12,1<=i.val->1<=j.val->word ((i.val:Nat):Int)=word ((j.val:Nat):Int)->i=j:=K3
theorem word_inj {a b:Int} (ha:1<=a/\a<=11) (hb:1<=b/\b<=11) (h:word a=word b):a=b:=by
 obtain ⟨n,rfl⟩:=A8 (show 0<=a by omega);obtain ⟨m,rfl⟩:=A8 (show 0<=b by omega);have:=xD ⟨n,O0⟩ ⟨m,O0⟩ (by show 1<=n;omega) (by show 1<=m;omega) h;have:=Fin.mk.inj this;rw [this]
theorem Xv (n:Nat):dec (n:Int)=Lib.decDigits n:=by
 induction n using Nat.strongRecOn with
 | _ n ih=>
  by_cases h:n<10
  · rw [dec_lt _ O0,Cf n h,show (48+(n:Int)).toNat=48+n by omega]
  rw [oo _ O0,Ap n h,show (n:Int) / 10=((n / 10:Nat):Int) by omega,ih (n / 10) O0,show (48+(n:Int) % 10).toNat=48+n % 10 by omega]
theorem NN (n:Nat) (h:n<10):n_ (UInt8.ofNat (48+n))=true/\((UInt8.ofNat (48+n)).toNat:Int) - 48=n:=by
 have e:(UInt8.ofNat (48+n)).toNat=48+n:=J4;rw [jb,e];omega
theorem Dm (n:Nat):(Lib.decDigits n).all n_=true/\val (Lib.decDigits n)=n:=by
 induction n using Nat.strongRecOn with
 | _ n ih=>
  by_cases h:n<10
  · rw [Cf n h]
    obtain ⟨h1,h2⟩:=NN n h;refine ⟨by rw [ni,h1];rfl,?_⟩;have:=Ja [] (UInt8.ofNat (48+n));rw [Ba] at this;rw [this,h2];simp [val]
  obtain ⟨h1,h2⟩:=NN (n % 10) O0;obtain ⟨b,a⟩:=ih (n / 10) O0;rw [Ap n h,Vi,b,Ja,a,h2];refine ⟨by rw [ni,h1];rfl,O0⟩
theorem Sd (n:Nat):(32:UInt8)∉Lib.decDigits n/\(10:UInt8)∉Lib.decDigits n:=by
 have:=(Dm n).1;rw [Nf] at this;constructor
 · intro h;have:=this _ h;revert this;decide
 intro h;have:=this _ h;revert this;decide
theorem Xn (n:Nat) (h:n<=40):Q8 (Lib.decDigits n)=true:=by
 obtain ⟨h1,h2⟩:=Dm n;refine yu ?_ h1 (by rw [h2];omega);have:=(Yy (n+1) (n:Int) O0 O0).1
 rwa [Xv] at this
theorem Rw {l:List UInt8} (h:Q8 l=true):0<=val l/\val l<=40/\l=Lib.decDigits (val l).toNat:=by
 simp only [Q8,V7,Q_] at h;obtain ⟨⟨h1,h2⟩,h3⟩:=h;have h0:=Vk l h2;refine ⟨h0,h3,?_⟩;have a:=(fw l h2 h1).1;have e:val l=((val l).toNat:Int):=O0;rw [<- Xv,<- e,a]
theorem Dx (n:Nat) (h:n<=40):n29 (Lib.decDigits n)=n:=by
 have h40:=Xn n h;obtain ⟨h1,h2⟩:=Dm n;have hl:=Sa n O0;have a:Lib.decDigits n≠[]:=by rw [<- Xv];exact RF _
 rw [Ep ⟨iq.2 a,O0⟩ h1 (by rw [h2,Xv]),h2]
def Pk (l:List UInt8) (x:I3) (ok:Bool):Prop:=(ok=true->Zb x=true/\l=body x)/\(ok=false->∀ y,Zb y=true->l≠body y)
theorem uj {y:I3} (_hy:Zb y=true):O1 (body y)=word y.op:=by
 have hw:=(U_ y.op).1;unfold body;cases hO:Z7 y.op <;> cases hX:M8 y.op
 · rw [Vj,Yk,hO,hX];simp;exact (Og hw).1
 · rw [Vj,Yk,hO,hX];simp;exact (Y5 hw).1
 · rw [Vj,Yk,hO,hX];simp;exact (Y5 hw).1
 rw [Vj,Yk,hO,hX];simp;exact (Y5 hw).1
theorem jg {l:List UInt8} {y:I3} {op:Int} (a:Zb y=true) (h:l=body y) (ho:1<=op/\op<=11) (hw:word op=O1 l):y.op=op:=by
 rw [h,uj a] at hw;exact (word_inj ho (m_ a).1 hw).symm
theorem Qt {l:List UInt8} (h:∀ op:Nat,1<=op->op<=11->word op≠O1 l) (y:I3) (a:Zb y=true):l≠body y:=by
 intro e;obtain ⟨h1,_⟩:=m_ a;obtain ⟨n,b⟩:=A8 (show 0<=y.op by omega);apply h n O0 O0;rw [e,uj a,b]
theorem OO:(⟨#[]⟩:ByteArray).toList.isEmpty=true:=by rw [I7];rfl
theorem Md (l:List UInt8) (x:I3) (h:∀ y,Zb y=true->l≠body y):Pk l x false:=⟨(fun h=>by cases h),fun _=>h⟩
section
variable {l:List UInt8} {op:Nat} (h1:1<=op) (h2:op<=11) (hw:word op=O1 l)
include h1 h2 hw
theorem ND (a:Z7 op=false) (hX:M8 op=false):(l=O1 l->Pk l ⟨op,⟨#[]⟩,0⟩ true)/\(l≠O1 l->∀ y,Zb y=true->l≠body y):=by
 constructor
 · intro e
   refine ⟨fun _=>⟨Yr ⟨by show (1:Int)<=op;omega,by show (op:Int)<=11;omega⟩ (.inr rfl) (.inr OO) (Int.le_refl _) (by show (0:Int)<=40;omega) (by show ((0:Nat):Int)<=300;omega),?_⟩,fun h=>by cases h⟩;unfold body;rw [Vj,Yk];simp only [a,hX,I_,xg,Xj];rw [hw];exact e
 intro c y b e;have ho:=jg b e ⟨O0,O0⟩ hw;apply c;rw [<- hw,<- ho];rw [e];unfold body;rw [Vj,Yk,ho,a,hX];simp
theorem xq (a:Z7 op=true\/M8 op=true) (c:(32:UInt8)∉l) (y:I3) (b:Zb y=true):l≠body y:=by
 intro e;have ho:=jg b e ⟨O0,O0⟩ hw;apply c;rw [e];unfold body;rw [Vj,Yk,ho];rcases a with a | a
 · rw [a];simp
 rw [a];cases Z7 (op:Int) <;> simp
theorem XC (b:Z7 op=true) (hX:M8 op=false) (g:(32:UInt8)∈l):Pk l ⟨op,⟨#[]⟩,zg (I1 l)⟩ (Q8 (I1 l)):=by
 obtain ⟨f,_⟩:=Y9 g;constructor
 · intro a
   obtain ⟨n0,d,nd⟩:=Rw a;rw [qA a];refine ⟨Yr ⟨by show (1:Int)<=op;omega,by show (op:Int)<=11;omega⟩ (.inl b) (.inr OO) n0 d (by show ((0:Nat):Int)<=300;omega),?_⟩;unfold body;rw [Vj,Yk];simp only [b,hX,Zc,I_,xg,Xj];rw [<- nd,hw];exact f
 intro a y c e;have ho:=jg c e ⟨O0,O0⟩ hw;obtain ⟨_,_,_,y0,y40,_⟩:=m_ c;have:I1 l=Lib.decDigits y.to.toNat:=by
  rw [e];unfold body;rw [Vj,Yk,ho,b,hX];simp only [Zc,I_,xg,Xj];exact (Y5 (U_ _).1).2
 rw [this,Xn _ O0] at a;cases a
theorem bD (f:Z7 op=false) (hX:M8 op=true) (h:(32:UInt8)∈l) (xR:l.length<=300) {t:List UInt8} {ok:Bool} (b:(ok=true->I1 l=V4 t)/\(ok=false->∀ q,I1 l≠V4 q)):Pk l ⟨op,Q3 t,0⟩ ok:=by
 obtain ⟨d,_⟩:=Y9 h;constructor
 · intro a
   have c:=b.1 a;have hlen:t.length<=300:=by
    have:=zm t;have h3:=V3 List.length d;rw [c] at h3;simp only [Q7,u_] at h3;omega
   refine ⟨Yr ⟨by show (1:Int)<=op;omega,by show (op:Int)<=11;omega⟩ (.inr rfl) (.inl hX) (Int.le_refl _) (by show (0:Int)<=40;omega) (by show ((Q3 t).size:Int)<=300;rw [J3];omega),?_⟩;unfold body;rw [Vj,Yk];simp only [f,hX,Zc,I_,xg,Xj];have:(Q3 t).data.toList=t:=rfl;rw [this,<- c,hw];exact d
 intro a y g e;have ho:=jg g e ⟨O0,O0⟩ hw;apply b.2 a y.tx.data.toList;rw [e];unfold body;rw [Vj,Yk,ho,f,hX];simp only [Zc,I_,xg,Xj];exact (Y5 (U_ _).1).2
theorem sD (c:Z7 op=true) (hX:M8 op=true) (b:(32:UInt8)∉I1 l) (y:I3) (a:Zb y=true):l≠body y:=by
 intro e;have ho:=jg a e ⟨O0,O0⟩ hw;apply b;rw [e];unfold body;rw [Vj,Yk,ho,c,hX];simp only [Zc,y_,Bc];rw [(Y5 (U_ _).1).2];simp
theorem BC (b:Z7 op=true) (hX:M8 op=true) (n:(32:UInt8)∈l) (m:(32:UInt8)∈I1 l) (xR:l.length<=300) (h:Q8 (O1 (I1 l))=true) {t:List UInt8} {ok:Bool} (c:(ok=true->I1 (I1 l)=V4 t)/\(ok=false->∀ q,I1 (I1 l)≠V4 q)):Pk l ⟨op,Q3 t,zg (O1 (I1 l))⟩ ok:=by
 obtain ⟨g,_⟩:=Y9 n;obtain ⟨f,_⟩:=Y9 m;obtain ⟨n0,j,nd⟩:=Rw h;rw [qA h];constructor
 · intro a
   have d:=c.1 a;have hlen:t.length<=300:=by
    have:=zm t;have h3:=V3 List.length g;have i:=V3 List.length f;rw [d] at i;simp only [Q7,u_] at h3 i;omega
   refine ⟨Yr ⟨by show (1:Int)<=op;omega,by show (op:Int)<=11;omega⟩ (.inl b) (.inl hX) n0 j (by show ((Q3 t).size:Int)<=300;rw [J3];omega),?_⟩;unfold body;rw [Vj,Yk];simp only [b,hX,Zc,y_,Bc];have:(Q3 t).data.toList=t:=rfl;rw [this,<- d,<- nd,hw,<- f];exact g
 intro a y k e;have ho:=jg k e ⟨O0,O0⟩ hw;apply c.2 a y.tx.data.toList;rw [e];unfold body;rw [Vj,Yk,ho,b,hX];simp only [Zc,y_,Bc];rw [(Y5 (U_ _).1).2,(Y5 (Sd _).1).2]
theorem MC (c:Z7 op=true) (hX:M8 op=true) (b:Q8 (O1 (I1 l))=false) (y:I3) (a:Zb y=true):l≠body y:=by
 intro e;have ho:=jg a e ⟨O0,O0⟩ hw;obtain ⟨_,_,_,y0,y40,_⟩:=m_ a;have:O1 (I1 l)=Lib.decDigits y.to.toNat:=by
  rw [e];unfold body;rw [Vj,Yk,ho,c,hX];simp only [Zc,y_,Bc];rw [(Y5 (U_ _).1).2,(Y5 (Sd _).1).1]
 rw [this,Xn _ O0] at b;cases b
end
end Go.Proofs.YtdjaajjndfbpmaaGreatDoor
namespace Go.Proofs.YtdjaajjndfbpmaaGreatDoor
open Go.RowKit
variable {R a l q r:List UInt8} {x y:I3} {is js:List I3}
theorem Ta (x:I3):(10:UInt8)∉body x:=by
 unfold body;simp only [P8,not_or];refine ⟨⟨(U_ _).2,?_⟩,?_⟩
 · unfold Vj;split
   · simp only [D_,not_or];exact ⟨K3,(Sd _).2⟩
   simp
 unfold Yk;split
 · simp only [D_,not_or];exact ⟨K3,Ur _⟩
 simp
theorem Vy {a b:Nat} (h:Lib.decDigits a=Lib.decDigits b):a=b:=by
 have h1:=(Dm a).2;have h2:=(Dm b).2;rw [h] at h1;omega
theorem Jq {a b:ByteArray} (d:a.toList.isEmpty=true) (c:b.toList.isEmpty=true):a=b:=by
 apply Pn;rw [I7] at d c;rw [List.isEmpty_iff] at d c;rw [d,c]
theorem Pq (hx:Zb x=true) (f:Zb y=true) (h:body x=body y):x=y:=by
 obtain ⟨o,d,c,n,m,l⟩:=m_ hx;obtain ⟨k,b,a,j,i,g⟩:=m_ f;have ho:=word_inj o k (by rw [<- uj hx,<- uj f,h]);obtain ⟨op,tx,to⟩:=x;obtain ⟨op',p,e⟩:=y;simp only at ho;subst ho;simp only at d c n m l b a j i g;unfold body Vj Yk at h;simp only [y_,List.append_cancel_left_eq] at h;cases hO:Z7 op <;> cases hX:M8 op
 · simp only [hO,I_,Zg] at d b
   simp only [hX,I_,Zg] at c a;rw [d,b,Jq c a]
 · simp only [hO,I_,Zg] at d b
   simp only [hO,hX,I_,xg,Zc,Ba,Ye,Dh] at h;rw [d,b,Pn (Fh h)]
 · simp only [hX,I_,Zg] at c a
   simp only [hO,hX,I_,xg,Zc,Xj,Ye,Dh] at h;have:=Vy h;rw [Jq c a,show to=e by omega]
 simp only [hO,hX,Zc,Bc,Ye,Dh] at h;have h1:=(Y5 (r:=V4 tx.data.toList) (Sd to.toNat).1);have h2:=(Y5 (r:=V4 p.data.toList) (Sd e.toNat).1);rw [h] at h1;have e1:=Vy (h1.1.symm.trans h2.1);have q:=Fh (h1.2.symm.trans h2.2);rw [Pn q,show to=e by omega]
theorem Oq (hx:Zb x=true) (a:Zb y=true) (h:V8 x++r=V8 y++q):x=y/\r=q:=by
 rw [S9,S9,y_,y_] at h;obtain ⟨h1,h2⟩:=Dp (Ta x) (Ta y) h;exact ⟨Pq hx a h1,h2⟩
theorem Ah (x:I3):V8 x≠[]:=by rw [S9];simp
theorem Ng (b:is.all Zb=true) (a:js.all Zb=true) (h:is.flatMap V8++R=js.flatMap V8):∃ r,R=r.flatMap V8/\js=is++r:=by
 induction is generalizing js with
 | nil=>exact ⟨js,by simpa using h,rfl⟩
 | cons x is ih=>
  simp only [ni,V7] at b
  cases js with
  | nil=>
   have:=Ah x;simp at h;exact absurd h.1 this
  | cons y js=>
   simp only [ni,V7] at a;simp only [Qe,y_] at h;obtain ⟨rfl,h2⟩:=Oq b.1 a.1 h;obtain ⟨r,c,d⟩:=ih b.2 a.2 h2;exact ⟨r,c,by rw [d];rfl⟩
theorem Qg (d:is.all Zb=true) (c:js.all Zb=true) (h:is.flatMap V8=js.flatMap V8):is=js:=by
 obtain ⟨r,a,b⟩:=Ng (R:=[]) d c (by simpa using h)
 cases r with
 | nil=>simpa using b.symm
 | cons y r=>
  have:=Ah y;simp at a;exact absurd a.1 this
theorem Ri (is:List I3):is.length<=(is.flatMap V8).length:=by
 induction is with
 | nil=>simp
 | cons x r ih=>
  have:1<=(V8 x).length:=iq.2 (Ah x);simp only [Qe,Q7,u_];omega
def Z_ (l:List UInt8) (is:List I3) (ok:Bool):Prop:=(ok=true->Zd is=true/\is.flatMap V8=l/\l.length<=300)/\(ok=false->is=[]/\∀ js,Zd js=true->js.flatMap V8=l->300<l.length)
theorem Pz {a b:Bool} (h:Z_ l is a) (k:Z_ l js b):is=js/\a=b:=by
 cases a <;> cases b
 · exact ⟨(h.2 rfl).1.trans (k.2 rfl).1.symm,rfl⟩
 · obtain ⟨d,c,e⟩:=k.1 rfl
   have:=(h.2 rfl).2 js d c;omega
 · obtain ⟨d,c,e⟩:=h.1 rfl
   have:=(k.2 rfl).2 is d c;omega
 obtain ⟨d,c,e⟩:=k.1 rfl;obtain ⟨h1,h2,h3⟩:=h.1 rfl;exact ⟨Qg (Wd h1).2 (Wd d).2 (h2.trans c.symm),rfl⟩
def Way (l:List UInt8) (is:List I3) (r:List UInt8):Prop:=l=is.flatMap V8++r/\is.all Zb=true
theorem Jm (l:List UInt8):Way l [] l:=⟨rfl,rfl⟩
theorem Iq (h:Way l is (a++10::r)) (hx:Zb x=true/\a=body x):Way l (is++[x]) r:=by
 refine ⟨?_,by rw [Vi,h.2];simp [hx.1]⟩;rw [h.1,Uq,hx.2];simp [S9]
theorem Ej (h:Way l is r) (d:r≠[]) (f:∀ y q,Zb y=true->r≠body y++10::q):Z_ l [] false:=by
 refine ⟨(fun h=>by cases h),fun _=>⟨rfl,fun js b e=>?_⟩⟩;exfalso;obtain ⟨q,a,g⟩:=Ng h.2 (Wd b).2 (h.1.symm.trans e.symm)
 cases q with
 | nil=>exact d a
 | cons y q=>
  have c:Zb y=true:=by
   have:=(Wd b).2;rw [g,Vi,ni] at this;simp only [V7] at this;exact this.2.1
  apply f y (q.flatMap V8) c;rw [a,Qe,S9,y_];rfl
theorem Ov (h:Way l is []) (c:l.length<=300):(Zd is=true->Z_ l is true)/\(Zd is=false->Z_ l [] false):=by
 have e:l=is.flatMap V8:=by simpa using h.1
 refine ⟨fun a=>⟨fun _=>⟨a,e.symm,c⟩,(fun h=>by cases h)⟩,fun a=>⟨(fun h=>by cases h),fun _=>⟨rfl,fun js b d=>?_⟩⟩⟩;have:=Qg (Wd b).2 h.2 (d.trans e);rw [this,a] at b;cases b
theorem Tg (h:300<l.length):Z_ l [] false:=⟨(fun h=>by cases h),fun _=>⟨rfl,fun _ _ _=>h⟩⟩
theorem Au (h:Way l is r):is.length+r.length<=l.length/\∀ i,(is.getD i A_).tx.size<=300:=by
 have h1:=Ri is;have h2:=V3 List.length h.1;rw [Q7] at h2;refine ⟨O0,Qo fun i a=>?_⟩;have:=(m_ (Vq h.2 a)).2.2.2.2.2;omega
def J5 (is:List I3):List Value:=is.flatMap fun x=>[.int .i64 x.op,.string x.tx,.int .i64 x.to]
theorem V_ (is:List I3) (x:I3):J5 (is++[x])=J5 is++[.int .i64 x.op,.string x.tx,.int .i64 x.to]:=by simp [J5]
theorem oh (is:List I3) (i:Nat) (h:i<is.length):(J5 is)[i*3]?=some (.int .i64 (is.getD i A_).op)/\(J5 is)[i*3+1]?=some (.string (is.getD i A_).tx)/\(J5 is)[i*3+2]?=some (.int .i64 (is.getD i A_).to):=by
 induction is generalizing i with
 | nil=>simp at h
 | cons x r ih=>
  cases i with
  | zero=>exact ⟨rfl,rfl,rfl⟩
  | succ i=>
   have:=ih i (by simpa using h);have e:∀ j,(J5 (x::r))[(i+1)*3+j]?=(J5 r)[i*3+j]?:=fun j=>by
    show ([Value.int .i64 x.op,.string x.tx,.int .i64 x.to]++J5 r)[(i+1)*3+j]?=_;rw [ji J4]
    congr 1
    simp;omega
   have a:=e 0;simp only [Nh] at a;rw [a,e 1,e 2];exact this
theorem J7 {w:World} {base:Nat} {v:Value} (h:w.ownsRow base 165 3 v is.length (J5 is)):∃ a cap,v=.slice a is.length cap/\Da w a is:=by
 have b:=h;rcases h.2 with ⟨hv,h0⟩ | ⟨g,cap,cur,hv,hg,d,_⟩
 · exact ⟨none,0,by rw [hv,h0],.inl (Ce.1 h0)⟩
 refine ⟨some ⟨g,0,none⟩,cap,hv,?_⟩;subst hv;refine .inr ⟨g,0,rfl,Q4 d,fun i c=>?_⟩;obtain ⟨j,f,e⟩:=oh is i c;rw [R7,b.cellAt _ O0,b.cellAt _ O0,b.cellAt _ O0];exact ⟨j,f,e⟩
end Go.Proofs.YtdjaajjndfbpmaaGreatDoor
