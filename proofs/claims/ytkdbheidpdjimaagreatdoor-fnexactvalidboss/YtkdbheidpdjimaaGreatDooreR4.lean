import Derived.Test.YtkdbheidpdjimaaGreatDooreY9
set_option maxRecDepth 100000
set_option linter.unusedVariables false
set_option maxHeartbeats 8000000
namespace Go.Proofs.YtkdbheidpdjimaaGreatDoor
open Proofs.Tryz Go.RowKit
variable {M c n:Int} {l:List UInt8} {x:L4} {t:BY} {ls:List L4}
def Qh (M:Int) (l:List UInt8):Bool:=Ub l&&l.all t_&&decide (val l<=M)
def GH (M:Int) (l:List UInt8):Int:=if Qh M l=true then val l else 0
theorem qK (h:Ub l=false):Qh M l=false:=by simp [Qh,h]
theorem CP (h:l.all t_=false):Qh M l=false:=by simp only [Qh,h,Uu,jA]
theorem IX (k:Nat) (h:M<val (l.take k)):Qh M l=false:=by
 by_cases ha:l.all t_=true
 · have:=Qo l ha k;have hd:decide (val l<=M)=false:=by simp only [Xr];omega
   simp only [Qh,hd,Uu]
 · exact CP (by simpa using ha)
theorem iO (h1:Ub l=true) (h2:l.all t_=true) (a:val l<=M):Qh M l=true:=by
 have hd:decide (val l<=M)=true:=by simpa using a
 simp only [Qh,h1,h2,hd,SI]
theorem XC (h:Qh M l=false):GH M l=0:=by simp [GH,h]
theorem KE (h:Qh M l=true):GH M l=val l:=by simp [GH,h]
theorem vW (M:Int) (s:BY) (w:World) (hs:s.size<=1048700) (v:0<=M) (hM1:M<=100000):
 Calls prog 168 #[.string s,.int .i64 M] w fun e w'=>e=.returned (.tuple #[.int .i64 (GH M s.data.toList),.bool (Qh M s.data.toList)])/\w'=w:=by
 by_cases h0:s.size=0
 · have e0:s.toList=[]:=by
    rw [ByteArray.toList_eq];exact Ya.1 (by simpa using h0)
   have a:Hid (Qh M s.data.toList=false):=qK (by rw [<- ByteArray.toList_eq,e0];rfl);go_enter func168,ntmps168;go_wp2;go_ret2;exact ⟨Ua (XC a.out).symm a.out.symm,rfl⟩
 · have e0:s.toList.isEmpty=false:=by rw [ByteArray.toList_eq];exact Vo s O0
   have e1:¬ s.toList=[]:=fun h=>by rw [h] at e0;cases e0
   have r:0<s.size:=O0;have g:=Ep s r;by_cases hl:Ub s.data.toList=true
   · have x:=U0 hl;have hc:(s[0].toNat=48/\s.toList=[48])\/((s[0].toNat:Int)==48)=false:=by
      by_cases c:s[0].toNat=48
      · refine .inl ⟨c,?_⟩;have h1:s[0]=48:=Ei.1 c;rw [ByteArray.toList_eq];exact ((qh _).1 hl).2 (by rw [g];exact h1)
      · exact .inr U7
     clear hl g;rcases hc with ⟨c,d⟩ | c
     all_goals
      go_enter func168,ntmps168;go_wp2;go_loop [6,21] (fun n i=>∃ k:Nat,k<=s.size/\i=.int .i64 k/\n=.int .i64 (val (s.data.toList.take k))/\0<=val (s.data.toList.take k)/\val (s.data.toList.take k)<=M/\Hid ((s.data.toList.take k).all t_=true)) (fun _ i=>s.size - (intOf i).toNat)
      case atStart=>exact ⟨0,D5 _,rfl,rfl,by simp [val],by simpa [val] using v,rfl⟩
      case round=>
       obtain ⟨k,hk,rfl,rfl,hv0,q,ha⟩:=hrel;by_cases j:k<s.size
       · by_cases b:t_ s[k]=true
         · have l:=(Ce _).1 b;have hw:=jo _ l;have u:=U0 (Md _ s k j ha.out b);have f:Hid (val (s.data.toList.take (k+1))=val (s.data.toList.take k)*10+((s[k].toNat:Int) - 48)):=by
            rw [take_snoc s k j];exact Ve _ _
           clear b;by_cases t:M<val (s.data.toList.take k)*10+((s[k].toNat:Int) - 48)
           · have a:=U0 (IX (k+1) (by rw [f.out];exact t));go_wp2;go_ret2;exact ⟨Ua (XC a.out).symm a.out.symm,rfl⟩
           · go_wp2
             go_round
             case rel=>exact ⟨k+1,O0,by go_num,by rw [f.out],by rw [f.out];omega,by rw [f.out];omega,u⟩
             case measure=>simp [intOf];omega
         · have a:Hid (Qh M s.data.toList=false):=CP (Ye _ s k j (by simpa using b));have l:(s[k].toNat:Int)<48\/57<(s[k].toNat:Int):=by
            rcases zn (s[k].toNat:Int) 48 with h | h
            · exact .inl h
            · rcases zn 57 (s[k].toNat:Int) with o | o
              · exact .inr o
              · exact absurd ((Ce _).2 ⟨h,o⟩) b
           clear b;rcases l with b | b
           all_goals
            go_wp2
            all_goals go_ret2
            all_goals exact ⟨Ua (XC a.out).symm a.out.symm,rfl⟩
       · have p:=Td _ s k O0 ha.out;have m:s.data.toList.take k=s.data.toList:=u_ U7;have a:=U0 (iO x.out p (by rw [<- m];exact q));have y:=U0 m;clear p m;go_wp2;go_ret2;exact ⟨Ua (by rw [KE a.out,y.out]) a.out.symm,rfl⟩
   · have a:Hid (Qh M s.data.toList=false):=qK (by simpa using hl);have c:s[0].toNat=48/\¬ s.toList=[48]:=by
      rw [ByteArray.toList_eq] at e1 ⊢;rw [qh,g] at hl;by_cases h1:s[0]=48
      · refine ⟨by rw [h1];rfl,fun d=>hl ⟨e1,fun _=>d⟩⟩
      · exact absurd ⟨e1,fun h=>absurd h h1⟩ hl
     obtain ⟨c,d⟩:=c;have hz':(!s.toList==[48])=true:=by simpa using d
     clear g hl;go_enter func168,ntmps168;go_wp2;go_ret2;exact ⟨Ua (XC a.out).symm a.out.symm,rfl⟩
theorem Xu (n:Int) (h0:0<=n) (h1:n<=1000):(dec n).length<=4:=by
 by_cases a:n<10
 · rw [dec_lt n a];simp
 · rw [Ko n O0,N9];by_cases b:n / 10<10
   · rw [dec_lt _ b];simp
   · rw [Ko (n / 10) O0,N9];by_cases c:n / 10 / 10<10
     · rw [dec_lt _ c];simp
     · rw [Ko (n / 10 / 10) O0,N9];have d:n / 10 / 10 / 10<10:=O0;rw [dec_lt _ d];simp
theorem AU (n:Int) (h1:n<10):(dec n).length=1:=by rw [dec_lt n h1];rfl
theorem Ij (h:o6 l=true):1<=l.length/\l.length<=20:=by
 unfold o6 at h;rw [Fa,Fe] at h;exact h.1
theorem PD (h:vr c l=true):l.length<=300:=by
 rcases o8 300 l.length with h1 | h1
 · rw [UE h1] at h;cases h
 · exact h1
theorem Pq (l:List UInt8):(X5 l).length<=3*l.length+2:=by
 have:=yt l;unfold X5;simp only [A_,N9,Xe];omega
theorem LU (h:Vh x):x.nm.data.toList.length<=20/\x.tx.data.toList.length<=300:=by
 have a:=Ij h.1;refine ⟨a.2,?_⟩;rcases h.2 with ⟨_,⟨_,h⟩ | ⟨_,h⟩⟩ | ⟨_,h⟩
 · rw [h];exact D5 _
 · rw [h];omega
 · exact PD h
theorem rF (h0:0<=c) (h1:c<=7) (ht:t.data.toList.length<=300):(Ib c t).length<=904:=by
 have a:=AU c O0;have b:=Pq t.data.toList;unfold Ib;simp only [N9,A_,Xe];omega
theorem RQ (h:Vh x):(uo x).length<=930:=by
 obtain ⟨a,b⟩:=LU h;have hc:=Ji h;have r:=rF hc.1 hc.2 b;have w4:(vw x.has).data.toList.length=4:=by cases x.has <;> rfl
 unfold uo;simp only [N9,A_,Xe];omega
theorem OH (h:jg ls):∀ k,k<=ls.length->(G_ (ls.take k)).length<=k*930:=by
 intro k
 induction k with
 | zero=>intro _;simp [G_]
 | succ k ih=>
  intro hk;rw [Nz ls k O0,N9];have:=RQ (h.2 k O0);have:=ih O0;omega
theorem Wv (h:jg ls):(G_ ls).length<=13950:=by
 have:=OH h ls.length x9;rw [u_ x9] at this;have:=h.1;omega
theorem ND {x:M3} (h:Ff x=true):x.nm.data.toList.length<=20/\x.tl.data.toList.length<=20/\x.ar.data.toList.length<=300:=by
 unfold Ff at h;simp only [Fa,Fe] at h;have e:x.ar.data.toList.length=x.ar.size:=I4;exact ⟨(Ij h.1.1).2,(Ij h.1.2).2,O0⟩
theorem XO (f:Nat) (n:Int) (h0:0<=n) (hf:n.toNat<f):(dec n).all t_=true/\val (dec n)=n:=by
 induction f generalizing n with
 | zero=>omega
 | succ f ih=>
  by_cases h:n<10
  · rw [dec_lt n h];obtain rfl | rfl | rfl | rfl | rfl | rfl | rfl | rfl | rfl | rfl:n=0\/n=1\/n=2\/n=3\/n=4\/n=5\/n=6\/n=7\/n=8\/n=9:=O0
    all_goals decide
  · obtain ⟨h1,h2⟩:=ih (n / 10) O0 O0;rw [Ko n O0,Ve,h2,Ho,h1];have hd:0<=n % 10/\n % 10<10:=O0;have a:n=n / 10*10+n % 10:=O0;generalize n % 10=d at*;generalize n / 10=q at*;obtain rfl | rfl | rfl | rfl | rfl | rfl | rfl | rfl | rfl | rfl:d=0\/d=1\/d=2\/d=3\/d=4\/d=5\/d=6\/d=7\/d=8\/d=9:=O0
    all_goals exact ⟨O6,by rw [a];rfl⟩
theorem yu (n:Int) (h0:0<=n):(dec n).all t_=true/\val (dec n)=n:=XO (n.toNat+1) n h0 O0
theorem wM (n:Int) (h0:0<=n):Ub (dec n)=true:=(MG (n.toNat+1) n h0 O0).1
theorem Ez (h0:0<=n) (h1:n<=M):Qh M (dec n)=true/\GH M (dec n)=n:=by
 obtain ⟨a,b⟩:=yu n h0;have:Qh M (dec n)=true:=iO (wM n h0) a (by rw [b];exact h1);exact ⟨this,by rw [KE this,b]⟩
theorem ZK (h:Qh M l=true):l=dec (GH M l)/\0<=GH M l/\GH M l<=M:=by
 rw [KE h];simp only [Qh,Fa,Fe] at h;obtain ⟨⟨h1,h2⟩,a⟩:=h;exact ⟨(Vw l h2 h1).1.symm,Vl l h2,a⟩
theorem pG (h0:0<=n) (h1:n<=1000):n29 (dec n)=n:=by
 obtain ⟨a,b⟩:=yu n h0;have:=Xu n h0 h1;have hne:=Gt.2 (gI n);rw [nD ⟨O0,O0⟩ a (by rw [b]),b]
theorem NY (h:l.all t_=true):(32:UInt8)∉l/\(10:UInt8)∉l:=by
 rw [Iq] at h;constructor
 · intro hm;have:=h _ hm;revert this;decide
 · intro hm;have:=h _ hm;revert this;decide
theorem qF (h0:0<=n):(32:UInt8)∉dec n/\(10:UInt8)∉dec n:=NY (yu n h0).1
theorem IG (l:List UInt8):X5 l≠[]:=by intro h;have:=Yo l;rw [h] at this;simp at this
theorem GV (h:Y1 l≠[]):(32:UInt8)∈l:=by
 by_cases hm:(32:UInt8)∈l
 · exact hm
 · exact absurd (Xi hm).2 h
theorem qf (h:Y1 l≠[]):l=O1 l++32::Y1 l:=(Lm (GV h)).1
theorem O9 (l:List UInt8):(Y2 l).data.toList=l:=rfl
def vC (l:List UInt8) (c:Int) (t:BY) (ok:Bool):Prop:=(∀ c' t',0<=c'->c'<=7->l=Ib c' t'->ok=true/\c=c'/\t=t')/\(ok=true->l=Ib c t)
theorem Il (c:Int) (t:BY):Ib c t=dec c++32::X5 t.data.toList:=by simp [Ib]
theorem fD (c:Int) (t:BY):Ib c t≠[]:=by rw [Il];simp
theorem Gu (t:BY) (h:0<=c):O1 (Ib c t)=dec c/\Y1 (Ib c t)=X5 t.data.toList:=by
 rw [Il];exact Y7 (qF h).1
theorem yM {t:List UInt8} (d:QY (Y1 l) t true) (f:Qh 7 (O1 l)=true):vC l (GH 7 (O1 l)) (Y2 t) true:=by
 have a:=d.1 rfl;obtain ⟨h,d2,d3⟩:=ZK f;constructor
 · intro c' b h0 g e;obtain ⟨e1,c⟩:=Gu b h0;rw [<- e] at e1 c;refine ⟨rfl,?_,?_⟩
   · rw [e1];exact (Ez h0 g).2
   · have:t=b.data.toList:=Xm (a.symm.trans c);rw [this];rfl
 · intro _;rw [Il,<- h,O9,<- a];exact qf (by rw [a];exact IG _)
theorem aO {t:List UInt8} {a:Bool} (f:QY (Y1 l) t a) (h:Qh 7 (O1 l)=false\/a=false) (c:Int) (x:BY):vC l c x false:=by
 refine ⟨fun c' d h0 g e=>?_,fun h=>by cases h⟩;obtain ⟨e1,b⟩:=Gu d h0;rw [<- e] at e1 b;rcases h with h | h
 · rw [e1,(Ez h0 g).1] at h;cases h
 · subst h;exact absurd b (f.2 rfl _)
def Mc (x:L4):List UInt8:=(lookW x.has).data.toList++32::(x.nm.data.toList++32::Ib x.cd x.tx)
theorem vV (x:L4):uo x=Mc x++[10]:=by
 unfold uo Mc vw lookW;cases x.has <;> simp
theorem yF (b:Bool):(32:UInt8)∉(lookW b).data.toList/\(10:UInt8)∉(lookW b).data.toList:=by cases b <;> decide
theorem rM (h:Vh x):(10:UInt8)∉Mc x:=by
 unfold Mc;rw [Il];simp only [jh,ve,Qm];exact ⟨(yF _).2,O6,(R_ h.1).2,O6,(qF (Ji h).1).2,O6,aj _⟩
theorem Om (h:o6 x.nm.data.toList=true):O1 (Mc x)=(lookW x.has).data.toList/\O1 (Y1 (Mc x))=x.nm.data.toList/\Y1 (Y1 (Mc x))=Ib x.cd x.tx:=by
 obtain ⟨a,b⟩:=Y7 (r:=x.nm.data.toList++32::Ib x.cd x.tx) (yF x.has).1;obtain ⟨c,d⟩:=Y7 (r:=Ib x.cd x.tx) (R_ h).1;unfold Mc;rw [a,b,c,d];exact ⟨rfl,rfl,rfl⟩
def Zl (l:List UInt8) (x:L4) (ok:Bool):Prop:=(∀ y,Vh y->l=Mc y->ok=true/\x=y)/\(ok=true->Vh x->l=Mc x)
def Gj (l:List UInt8):Bool:=decide (O1 l=[104,97,115])
def ZA (l:List UInt8):Bool:=Gj l || decide (O1 l=[97,115,107])
theorem oO (h:ZA l=true):O1 l=(lookW (Gj l)).data.toList:=by
 unfold ZA at h;cases hh:Gj l
 · rw [hh] at h;simp only [Bool.false_or,Fe] at h;rw [h];rfl
 · unfold Gj at hh;rw [Fe] at hh;rw [hh];rfl
theorem Ws {b:Bool} (h:O1 l=(lookW b).data.toList):ZA l=true/\Gj l=b:=by
 unfold ZA Gj;rw [h];cases b <;> decide
theorem QI (hw:ZA l=true) (hr:vC (Y1 (Y1 l)) c t true):Zl l ⟨Gj l,Y2 (O1 (Y1 l)),c,t⟩ true:=by
 constructor
 · intro y f e;obtain ⟨a,b,d⟩:=Om f.1;rw [<- e] at a b d;obtain ⟨_,h1,h2⟩:=hr.1 _ _ (Ji f).1 (Ji f).2 d;refine ⟨rfl,?_⟩;rw [(Ws a).2,b,h1,h2];rfl
 · intro _ _;have e:=hr.2 rfl;have h2:Y1 (Y1 l)≠[]:=by rw [e];exact fD _ _
   have h1:Y1 l≠[]:=fun h=>by rw [h] at h2;exact h2 rfl
   unfold Mc;rw [O9,<- oO hw,<- e,<- qf h2,<- qf h1]
theorem QL {ok:Bool} (hr:vC (Y1 (Y1 l)) c t ok) (h:ZA l=false\/ok=false) (x:L4):Zl l x false:=by
 refine ⟨fun y f e=>?_,fun h=>by cases h⟩;obtain ⟨a,b,d⟩:=Om f.1;rw [<- e] at a b d;rcases h with h | h
 · rw [(Ws a).1] at h;cases h
 · have:=(hr.1 _ _ (Ji f).1 (Ji f).2 d).1;rw [h] at this;cases this
def Em (ls:List (List UInt8)) (xs:List L4) (ok:Bool):Prop:=(∀ ys,(∀ i,i<ys.length->Vh (ys.getD i O_))->ls=ys.map Mc->ok=true/\xs=ys)/\(ok=true->(∀ i,i<xs.length->Vh (xs.getD i O_))->ls=xs.map Mc)
theorem Qq (ys:List L4) (i:Nat) (h:i<ys.length):(ys.map Mc).getD i []=Mc (ys.getD i O_):=by
 simp [List.getD,h]
theorem bG {α:Type} {a b:List α} {d:α} (hl:a.length=b.length) (h:∀ i,i<a.length->a.getD i d=b.getD i d):a=b:=by
 refine ny hl fun i h1 h2=>?_;have:=h i h1;simpa [List.getD,h1,h2] using this
theorem jH {ls:List (List UInt8)} {xs:List L4} (hl:xs.length=ls.length) (h:∀ i,i<ls.length->Zl (ls.getD i []) (xs.getD i O_) true):Em ls xs true:=by
 constructor
 · intro ys b e;subst e;rw [Lc] at hl h;refine ⟨rfl,bG (d:=O_) hl fun i a=>?_⟩;exact ((h i O0).1 _ (b i O0) (Qq ys i O0)).2
 · intro _ hx;refine bG (d:=[]) (by rw [Lc,hl]) fun i a=>?_;rw [Qq xs i O0];exact (h i a).2 rfl (hx i O0)
theorem GI {ls:List (List UInt8)} {k:Nat} (a:k<ls.length) (h:Zl (ls.getD k []) x false) (xs:List L4):Em ls xs false:=by
 refine ⟨fun ys b e=>?_,fun h=>by cases h⟩;subst e;rw [Lc] at a;have:=(h.1 _ (b k a) (Qq ys k a)).1;cases this
theorem mr (u:World) (B j:Nat) (a b x0 x1:Value) (h0:u.cell? ⟨B,j,none⟩=some x0) (h1:u.cell? ⟨B,j+1,none⟩=some x1):
 ((u.setCell ⟨B,j,none⟩ a).setCell ⟨B,j+1,none⟩ b).cell? ⟨B,j,none⟩=some a/\((u.setCell ⟨B,j,none⟩ a).setCell ⟨B,j+1,none⟩ b).cell? ⟨B,j+1,none⟩=some b:=by
 have c:(u.setCell (aA B j) a).cell? (aA B (j+1))=some x1:=by rw [La _ _ _ _ (XK O0)];exact h1
 refine ⟨?_,Bf _ _ _ c⟩;rw [La _ _ _ _ (XK O0)];exact Bf _ _ _ h0
def YP (l:List UInt8) (e:Ending):Prop:=∃ (c:Int) (t:BY) (ok:Bool),e=.returned (.tuple #[.agg #[.int .i64 c,.string t],.bool ok])/\vC l c t ok/\t.size<=1048576
theorem a0A (l:List UInt8) (w:World) (hs:l.length<=16000) (q:Tc w):
 Calls prog 216 #[.string (Y2 l)] w fun e w'=>YP l e/\Bw w w':=by
 have o:Bw w (w.alloc (.cells #[vO,vE] 103)):=o7;have hr:=X7 l;go_enter func216,ntmps216
 go_wp2_with fail
 refine (YJ l _ O0 (G9 q o)).mono ?_;rintro e p ⟨⟨y,rfl⟩,n⟩;have m:Below (w.heap.size+1) (w.alloc (.cells #[vO,vE] 103)) p:=lF n;clear n
 go_wp2_with fail
 refine (vW 7 (Y2 (O1 l)) _ (by rw [J5];omega) O0 O0).mono ?_;rintro e w2 ⟨rfl,rfl⟩
 go_wp2_with fail
 refine (kQ (Y1 l) _ O0).mono ?_;rintro e c ⟨⟨t,ok,rfl,f⟩,r⟩;have k:=m.trans (r.mono (by have h:=m.size;simp at h;omega));have j:Bw w c:=o.trans (k.mono O0);rw [O9];have a:(Qh 7 (O1 l)=false\/ok=false)->Hid (YP l (.returned (.tuple #[.agg #[vO,vE],.bool false]))):=fun h=>⟨0,⟨#[]⟩,false,rfl,aO f h _ _,O6⟩;have d:Qh 7 (O1 l)=true->ok=true->Hid (YP l (.returned (.tuple #[.agg #[vI (GH 7 (O1 l)),vS (Y2 t)],.bool true]))):=by
  intro h1 h2;subst h2;refine ⟨_,_,true,rfl,yM f h1,?_⟩;have:=Yo t;rw [<- f.1 rfl] at this;rw [J5];omega
 clear f;obtain ⟨⟨i,g⟩,y0,y1⟩:=rz2 k;cases hn:Qh 7 (O1 l)
 · have b:=a (.inl hn);clear a d;go_wp2;have F:=mr c w.heap.size 0 vO vE _ _ i g;simp only [E8] at F;refine P7 (v:=.tuple #[.agg #[vO,vE],.bool false]) (by simp [results,results216,go_sem,F.1,F.2]) rfl ⟨b.out,(j.setCell I4 _).setCell I4 _⟩
 · cases ok
   · have b:=a (.inr rfl);clear a d;go_wp2;have F:=mr c w.heap.size 0 vO vE _ _ i g;simp only [E8] at F;refine P7 (v:=.tuple #[.agg #[vO,vE],.bool false]) (by simp [results,results216,go_sem,F.1,F.2]) rfl ⟨b.out,(j.setCell I4 _).setCell I4 _⟩
   · have b:=d hn rfl;clear a d;go_wp2;have F:=mr c w.heap.size 0 (vI (GH 7 (O1 l))) (vS (Y2 t)) _ _ i g;simp only [E8] at F;refine P7 (v:=.tuple #[.agg #[vI (GH 7 (O1 l)),vS (Y2 t)],.bool true]) (by simp [results,results216,go_sem,F.1,F.2]) rfl ⟨b.out,(j.setCell I4 _).setCell I4 _⟩
theorem has_eq (l:List UInt8):((Y2 (O1 l)).toList==[104,97,115])=Gj l:=by
 rw [ByteArray.toList_eq,O9];unfold Gj;by_cases h:O1 l=[104,97,115]
 · rw [h];rfl
 · rw [P9 h];exact n_.2 h
theorem qQ (l:List UInt8):((Y2 (O1 l)).toList==[97,115,107])=decide (O1 l=[97,115,107]):=by
 rw [ByteArray.toList_eq,O9];by_cases h:O1 l=[97,115,107]
 · rw [h];rfl
 · rw [P9 h];exact n_.2 h
theorem a1m (l:List UInt8) (w:World):
 Calls prog 265 #[.string (Y2 (O1 l))] w fun e w'=>e=.returned (.tuple #[.bool (Gj l),.bool (ZA l)])/\Bw w w':=by
 have h1:=has_eq l;have h2:=qQ l;have b:ZA l=(Gj l || decide (O1 l=[97,115,107])):=rfl;generalize decide (O1 l=[97,115,107])=a at*;generalize Gj l=h at*;generalize ZA l=i at*;generalize Y2 (O1 l)=s at*;subst b;go_enter func265,ntmps265;cases h <;> cases a
 all_goals
  go_wp2
  try go_region
 all_goals try go_wp2
 all_goals go_ret2
 all_goals
  refine ⟨by first | rfl | simp [h1,h2],?_⟩
  first | exact Z4 _ _ | exact (Z4 _ _).drew | exact (Z4 _ _).drew.drew
