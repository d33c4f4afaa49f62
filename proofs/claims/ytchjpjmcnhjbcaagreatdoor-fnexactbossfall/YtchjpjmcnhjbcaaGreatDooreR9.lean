import Derived.Test.YtchjpjmcnhjbcaaGreatDoorMB
import Derived.Test.YtchjpjmcnhjbcaaGreatDoorM8
import Derived.Test.YtchjpjmcnhjbcaaGreatDooreRQ
set_option linter.unusedVariables false
set_option maxRecDepth 100000
set_option maxHeartbeats 8000000
namespace Go.Proofs.YtchjpjmcnhjbcaaGreatDoor
open Go.RowKit Go.Maps
variable {s:St} {m:M3} {is ls xs:List L4} {t:BY} {B N base g n:Nat} {W W' w w':World} {ts:LB} {rs:List R3} {v:Value} {vs:List Value} {f l:List UInt8} {b ss:List (List UInt8)} {ok:Bool}
theorem Ux {c:Int} (h:Xg s):(a_ s.wd s.ts s.rs m ls c t=0->F_ s m ls c t=(⟨s.wd,(Y7 s.wd (Jl ls c t) (s.ts,true)).1,Hf s.rs (qh s.wd m ls c t)⟩,0))/\(a_ s.wd s.ts s.rs m ls c t≠0->F_ s m ls c t=(st0,a_ s.wd s.ts s.rs m ls c t)):=by
 by_cases h1:Zf m ls c t
 · by_cases h2:(Y7 s.wd (Jl ls c t) (s.ts,true)).2=false
   · simp [F_,a_,h,h1,h2]
   · by_cases a:300<(Y7 s.wd (Jl ls c t) (s.ts,true)).1.length\/150<(Hf s.rs (qh s.wd m ls c t)).length
     · simp [F_,a_,h,h1,h2,a]
     · simp [F_,a_,h,h1,h2,a]
 · simp [F_,a_,h,h1]
theorem NR {c:Int} (h:¬ Xg s):F_ s m ls c t=(st0,1):=by
 unfold F_;rw [X7 h]
def Vt (s:St) (m:M3) (ls:List L4) (c:Int) (t:BY) (base:Nat) (w':World) (e:Ending):Prop:=
 ∃ ta tc ra rc,e=.returned (.tuple #[.agg #[.int .i64 (F_ s m ls c t).1.wd,.slice ta (F_ s m ls c t).1.ts.length tc,.slice ra (F_ s m ls c t).1.rs.length rc],.int .i64 (F_ s m ls c t).2])/\Td w' base (F_ s m ls c t).1.ts (F_ s m ls c t).1.rs (.slice ta (F_ s m ls c t).1.ts.length tc) (.slice ra (F_ s m ls c t).1.rs.length rc)
theorem Np (W:World) (base:Nat):Td W base [] [] (.slice none 0 0) (.slice none 0 0):=⟨mg _ _ _ _,[],rfl,mg _ _ _ _,fun i h=>absurd h (J8 _),fun i j h=>absurd h (J8 _)⟩
theorem Fe {c:Int} {n:Int} (h:F_ s m ls c t=(st0,n)):Vt s m ls c t base w' (.returned (.tuple #[.agg #[.int .i64 0,.slice none 0 0,.slice none 0 0],.int .i64 n])):=by
 unfold Vt;rw [h];exact ⟨none,0,none,0,rfl,Np _ _⟩
theorem OB {c:Int} {d:Int} {a:LB} {b:List R3} {ta ra:OA} {tc rc:Nat} (h:F_ s m ls c t=(⟨d,a,b⟩,0)) (e:Td w' base a b (.slice ta a.length tc) (.slice ra b.length rc)):Vt s m ls c t base w' (.returned (.tuple #[.agg #[.int .i64 d,.slice ta a.length tc,.slice ra b.length rc],.int .i64 0])):=by
 unfold Vt;rw [h];exact ⟨ta,tc,ra,rc,rfl,e⟩
theorem Td.keep {tv d:Value} (h:Td W base ts rs tv d) (b:∀ q,base<=q->q<W.heap.size->W'.heap[q]?=W.heap[q]?):Td W' base ts rs tv d:=by
 obtain ⟨h1,vs,h2⟩:=h;refine ⟨o7 h1 (fun q a=>b q (J6 h1 a) (Xe h1 a)),vs,h2.len,o7 h2.row (fun q a=>b q (J6 h2.row a) (Xe h2.row a)),fun i f=>?_,h2.apart⟩;obtain ⟨g,c3,e,c⟩:=h2.gl i f;exact ⟨g,c3,e,o7 c (fun q a=>b q (J6 c a) (Xe c a))⟩
theorem JZ {P:Program} {ops:Array Oper} {o:Oper} {a:Act} {K:Act->World->Prop} {Q:Exit->Act->World->Prop} {E:Prop}
 (B:o.guard=none) (s x:Operand) (t:TypeId) (y:o.op=Op.call { callee:=Callee.builtin Builtin.append,args:=#[s,x],argTypes:=#[t,t] })
 (base:Nat) (e:TypeId) (i:TypeInfo) (z:Value) (size bytes:Nat) (h1:P.underlying t=some (.slice e)) (h2:P.info? e=some i) (L:i.zero=some z) (J:i.size=size) (I:i.bytes=bytes) (H:z.cells.size=size) (F:0<size)
 (v:Value) (n:Nat) (xs:List Value) (p:a.eval s=v) (r:w.ownsRow base e size v n xs)
 (d:Addr) (m c:Nat) (b:List Value) (hx:a.eval x=.slice (some d) m c) (A:b.length=m*size) (hc:∀ j u,b[j]?=some u->w.cell? (d.add j)=some u) (N:∀ u∈b,u.oneCell'=true)
 (R:n+m<=maxLen) (O:(n+m)*bytes<=140737488355328) (C:base<=w.heap.size)
 (D:∀ v' w',w'.ownsRow base e size v' (n+m) (xs++b)->w.grownBy w' v.ownBlock->(v≠.slice none 0 0->v'≠.slice none 0 0)->K (a.put o.dst v') w'):
 if Region.wanted o (yielded ops a.tmps)=true then Oper.wp P o a w K Q else E:=by
 have hw:Region.wanted o (yielded ops a.tmps)=true:=by simp [Region.wanted,B]
 rw [X7 hw];obtain ⟨v',w',q,l,g,f,r4⟩:=run_append_own_at (P:=P) w base t o.type e i z size bytes h1 h2 L J I H F v n xs r d m c b A hc N R O C;unfold Oper.wp;simp [execOp,y,resolve,invoke,builtin,p,hx,q,Result.andThen];exact D v' w' l g (fun h k=>h (f.1 k).1)
theorem a1D {e size:Nat} {xs:List Value} (h:W.ownsRow base e size v n xs) (a:v≠.slice none 0 0):∃ g c,v=.slice (some ⟨g,0,none⟩) n c:=by
 rcases h.2 with ⟨hv,_⟩ | ⟨g,b,cur,hv,_⟩
 · exact absurd hv a
 · exact ⟨g,b,hv⟩
theorem zF {V1 T:World} {n:Value} {y:R3} {c:OA} {b:Nat} (ho:Fg V1 N v rs vs) (A:T.ownsRow N 205 3 (.slice c y.gs.length b) y.gs.length (gC y.gs)) (s:T.ownsRow N 145 3 n (rs.length+1) (rC rs vs++[.string y.key,.slice c y.gs.length b,.string y.out]))
 (w:∀ q,ng V1 q 205->T.heap[q]?=V1.heap[q]?) (p:∀ q,(Value.slice c y.gs.length b).ownBlock=some q->V1.heap.size<=q):Fg T N n (rs++[y]) (vs++[.slice c y.gs.length b]):=by
 have g:∀ i,i<rs.length->(vs++[Value.slice c y.gs.length b]).getD i undef=vs.getD i undef:=fun i a=>by simp only [List.getD,S_ (show i<vs.length by rw [ho.len];exact a)]
 have k:(vs++[Value.slice c y.gs.length b]).getD rs.length undef=(vL c y.gs.length b):=by simp [List.getD,show rs.length=vs.length by rw [ho.len]]
 have u:∀ i,i<rs.length->(rs++[y]).getD i f_=rs.getD i f_:=fun i a=>by simp only [List.getD,S_ a]
 have t:(rs++[y]).getD rs.length f_=y:=by simp [List.getD]
 have o:∀ i,i<rs.length->∀ q,(vs.getD i undef).ownBlock=some q->q<V1.heap.size:=fun i a q d=>by
  obtain ⟨r,c3,e,h⟩:=ho.gl i a;rw [e] at d;exact Xe h d
 refine ⟨by simp [ho.len],?_,fun i a=>?_,fun i j a x z=>?_⟩
 · rw [TJ _ _ _ _ ho.len,D9];exact s
 · rw [D9,Si] at a;rcases Q7 i rs.length with l | hge
   · rw [g i l,u i l];obtain ⟨r,c3,e,h⟩:=ho.gl i l;exact ⟨r,c3,e,o7 h (fun q d=>w q (N8 h d))⟩
   · obtain rfl:i=rs.length:=O0;rw [k,t];exact ⟨c,b,rfl,A⟩
 · rw [D9,Si] at a x;rcases Q7 i rs.length with m | hgi
   · rw [g i m];rcases Q7 j rs.length with f | hgj
     · rw [g j f];exact ho.apart i j m f z
     · obtain rfl:j=rs.length:=O0;rw [k]
       cases d:(vs.getD i undef).ownBlock with
       | none=>exact .inl rfl
       | some q=>
        refine .inr fun e=>?_;have:=o i m q d;have:=p q e.symm;omega
   · obtain rfl:i=rs.length:=O0;rw [k];have f:j<rs.length:=O0;rw [g j f]
     cases d:(Value.slice c y.gs.length b).ownBlock with
     | none=>exact .inl rfl
     | some q=>
      refine .inr fun e=>?_;have:=o j f q e.symm;have:=p q d;omega
theorem Fg.keep (h:Fg W base v rs vs) (f:∀ q t,ng W q t->t=145\/t=205->base<=q->W'.heap[q]?=W.heap[q]?):Fg W' base v rs vs:=
 ⟨h.len,o7 h.row (fun q b=>f q 145 (N8 h.row b) (.inl rfl) (J6 h.row b)),fun i g=>by
  obtain ⟨a,c,e,d⟩:=h.gl i g;exact ⟨a,c,e,o7 d (fun q b=>f q 205 (N8 d b) (.inr rfl) (J6 d b))⟩,h.apart⟩
theorem Be {q:Nat} {t:TypeId} (h:ng W q t):q<W.heap.size:=by
 obtain ⟨cur,fr,e⟩:=h;exact (r_.1 e).1
structure LC (V:World) (N A:Nat) (W0:Int) (ts:LB) (g c:Nat) (P:List R3) (a2:OA) (c2:Nat) (vs:List Value) (W:World):Prop where
 bl:D5 W A [.int .i64 W0,.slice (some ⟨g,0,none⟩) ts.length c,.slice a2 P.length c2]
 rc:Fg W N (.slice a2 P.length c2) P vs
 tr:W.ownsRow N 9 1 (.slice (some ⟨g,0,none⟩) ts.length c) ts.length (ts.map Value.string)
 op:X6 W A
 t1:ng W A 43
 na:N<=A
 bw:Below N V W
theorem LC.below {V:World} {A:Nat} {W0:Int} {c:Nat} {P:List R3} {a2:OA} {c2:Nat} (h:LC V N A W0 ts g c P a2 c2 vs W) (a:Bw W W'):LC V N A W0 ts g c P a2 c2 vs W':=
 ⟨h.bl.below a (Be h.t1),h.rc.keep (fun q t hT _ _=>a.block q (Be hT)),own_below h.tr a,h.op.below a (Be h.t1),h.t1.below a (Be h.t1),h.na,h.bw.trans (a.mono (by have:=Be h.t1;have:=h.na;omega))⟩
open Proofs.Tryz Go.RowKit
structure g_ where
 kd:Int
 ep:Int
 fn:BY
 ft:BY
 km:M3
 ls:List L4
 cd:Int
 tx:BY
def Di:g_:=⟨0,0,⟨#[]⟩,⟨#[]⟩,D_,[],0,⟨#[]⟩⟩
def g_.le (x:g_) (B:Nat):Prop:=x.fn.size<=B/\x.ft.size<=B/\x.km.le B/\(x.ls.length<=B/\∀ i,(x.ls.getD i E_).le B)/\x.tx.size<=B
def g_.c (x:g_) (ai:OA) (ci:Nat):List Value:=[.int .i64 x.kd,.int .i64 x.ep,.string x.fn,.string x.ft,.string x.km.nm,.string x.km.tl,.string x.km.ar,.slice ai x.ls.length ci,.int .i64 x.cd,.string x.tx]
theorem g_.bC (x:g_) (b:OA) (a:Nat):∀ v∈x.c b a,v.oneCell'=true:=by simp [g_.c,Value.oneCell']
def h_ (n:Int):g_:=⟨1,n,⟨#[]⟩,⟨#[]⟩,D_,[],0,⟨#[]⟩⟩
def Ib (a b:BY):g_:=⟨2,0,a,b,D_,[],0,⟨#[]⟩⟩
def Nb (a:BY):g_:=⟨3,0,a,⟨#[]⟩,D_,[],0,⟨#[]⟩⟩
def og (m:M3) (ls:List L4) (c:Int) (t:BY):g_:=⟨4,0,⟨#[]⟩,⟨#[]⟩,m,ls,c,t⟩
def P_:g_:=⟨5,0,⟨#[]⟩,⟨#[]⟩,D_,[],0,⟨#[]⟩⟩
def V8 (x:g_):Prop:=(∃ n,(1<=n/\n<=200)/\x=h_ n)\/(∃ a b,(Y5 a.data.toList=true/\b.size<=300)/\x=Ib a b)\/(∃ a,Y5 a.data.toList=true/\x=Nb a)\/(∃ m ls c t,(Ze m=true/\Uf ls/\vr c t.data.toList=true)/\x=og m ls c t)\/x=P_
def Mc (ls:List (List UInt8)):List UInt8:=ls.flatMap (·++[10])
theorem Yv (ls:List L4):y_ ls=Mc (ls.map yc):=by
 unfold y_ Mc
 induction ls with
 | nil=>rfl
 | cons x r ih=>simp only [vg,Hq,ih,dW]
theorem aG (ls:List (List UInt8)) (h:∀ l∈ls,(10:UInt8)∉l):G8 10 (Mc ls)=ls++[[]]:=by
 have:∀ (ls P:List (List UInt8)),(∀ l∈ls,(10:UInt8)∉l)->(Mc ls).foldl (cst 10) (P,[])=(P++ls,[]):=by
  intro ls
  induction ls with
  | nil=>intro P _;simp [Mc]
  | cons a r ih=>
   intro P h;have e:Mc (a::r)=(a++[10])++Mc r:=rfl;rw [e,wE,wF _ _ (h a X4),ih _ (fun l hl=>h l (by simp [hl]))];simp
 unfold G8 y8;rw [this ls [] h];rfl
theorem AQ (l:List UInt8):Mc (G8 10 l)=l++[10]:=by
 have:∀ n,∀ l:List UInt8,l.length<=n->Mc (G8 10 l)=l++[10]:=by
  intro n
  induction n with
  | zero=>
   intro l hl;obtain rfl:l=[]:=Va.1 O0;rfl
  | succ n ih=>
   intro l hl;by_cases hm:(10:UInt8)∈l
   · obtain ⟨p,r,rfl,a⟩:=yR hm;rw [bK a];have:=ih r (by simp at hl;omega);have e:Mc (p::G8 10 r)=(p++[10])++Mc (G8 10 r):=rfl;rw [e,this];simp
   · rw [qO hm];simp [Mc]
 exact this l.length l H8
theorem QS (l:List UInt8):G8 10 (l++[10])=G8 10 l++[[]]:=by
 unfold G8;rw [Zm];simp [cst]
def Bd:List UInt8:=[101,112,111,99,104]
def Jh:List UInt8:=[102,105,108,101]
def Zg:List UInt8:=[100,114,111,112]
def Wj:List UInt8:=[114,97,110]
def Jg:List UInt8:=[99,108,101,97,114]
def Cf:List UInt8:=[103,97,118,101]
def X9 (x:g_):List (List UInt8):=if x.kd=1 then [Bd++32::dec x.ep] else if x.kd=2 then [Jh++32::(x.fn.data.toList++32::P5 x.ft.data.toList)] else if x.kd=3 then [Zg++32::x.fn.data.toList] else if x.kd=4 then (Wj++32::Oc x.km)::(x.ls.map yc++[Cf++32::Za x.cd x.tx]) else [Jg]
def z_ (x:g_):List UInt8:=Mc (X9 x)
theorem nH {x:g_} (h:V8 x):∀ l∈X9 x,(10:UInt8)∉l:=by
 rcases h with ⟨n,⟨h1,h2⟩,rfl⟩ | ⟨a,b,⟨h1,h2⟩,rfl⟩ | ⟨a,h1,rfl⟩ | ⟨m,ls,c,t,⟨h1,h2,j⟩,rfl⟩ | rfl
 · intro l hl;obtain rfl:l=Bd++32::dec n:=by simpa [X9,h_] using hl
   simp only [Yg,Jd,Rl];exact ⟨o6,o6,(TD O0).2⟩
 · intro l hl;obtain rfl:l=Jh++32::(a.data.toList++32::P5 b.data.toList):=by simpa [X9,Ib] using hl
   simp only [Yg,Jd,Rl];exact ⟨o6,o6,(L_ h1).2,o6,Ti _⟩
 · intro l hl;obtain rfl:l=Zg++32::a.data.toList:=by simpa [X9,Nb] using hl
   simp only [Yg,Jd,Rl];exact ⟨o6,o6,(L_ h1).2⟩
 · intro l hl;obtain ⟨n1,n2,_⟩:=jh h1;have g:l=Wj++32::Oc m\/l∈ls.map yc\/l=Cf++32::Za c t:=by simpa [X9,og] using hl
   rcases g with rfl | hl | rfl
   · rw [Ac];simp only [Yg,Jd,Rl];exact ⟨o6,o6,(L_ n1).2,o6,(L_ n2).2,o6,Ti _⟩
   · obtain ⟨y,f,rfl⟩:=Pm.1 hl;obtain ⟨i,d,e⟩:=Zd f;have:=h2.2 i d;rw [List.getD,Z8 d,e] at this;exact dN this
   · rw [Yj];simp only [Yg,Jd,Rl];exact ⟨o6,o6,(TD (Ug j).1).2,o6,Ti _⟩
 · intro l hl;obtain rfl:l=Jg:=by simpa [X9,P_] using hl
   decide
theorem JK {x:g_} (h:V8 x):(z_ x).length<=16000/\1<=(z_ x).length:=by
 rcases h with ⟨n,⟨h1,h2⟩,rfl⟩ | ⟨a,b,⟨h1,h2⟩,rfl⟩ | ⟨a,h1,rfl⟩ | ⟨m,ls,c,t,⟨h1,h2,d⟩,rfl⟩ | rfl
 · have a:=Rt n O0 O0;have e:z_ (h_ n)=Bd++32::dec n++[10]:=by simp [z_,X9,h_,Mc]
   rw [e];simp [Bd];omega
 · have q:=Iq b.data.toList;have k:=uj h1;have z:b.data.toList.length=b.size:=X4;have e:z_ (Ib a b)=Jh++32::(a.data.toList++32::P5 b.data.toList)++[10]:=by simp [z_,X9,Ib,Mc]
   rw [e];simp only [D9,o_,Ee,Jh];omega
 · have k:=uj h1;have e:z_ (Nb a)=Zg++32::a.data.toList++[10]:=by simp [z_,X9,Nb,Mc]
   rw [e];simp only [D9,o_,Ee,Zg];omega
 · have a:=UE h1;have q:=Iq m.ar.data.toList;have l:=uw h2;have r:=eF (Ug d).1 (Ug d).2 (UD d);have e:z_ (og m ls c t)=Wj++32::Oc m++[10]++y_ ls++(Cf++32::Za c t++[10]):=by
    rw [Yv];simp [z_,X9,og,Mc]
   rw [e,Ac];simp only [D9,o_,Ee,Wj,Cf];omega
 · decide
def yC (L:List (List UInt8)) (x:g_) (ok:Bool):Prop:=(∀ y,V8 y->L=X9 y->ok=true/\x=y)/\(ok=true->V8 x->L=X9 x)
theorem YD {L:List (List UInt8)} (h:∀ y,V8 y->L≠X9 y) (x:g_):yC L x false:=⟨fun y a e=>absurd e (h y a),fun h=>by cases h⟩
def dB (x:g_):List UInt8:=if x.kd=1 then Bd else if x.kd=2 then Jh else if x.kd=3 then Zg else if x.kd=4 then Wj else Jg
theorem je {y:g_} (d:V8 y) {f:List UInt8} {b:List (List UInt8)} (e:f::b=X9 y):O1 f=dB y/\(y.kd≠4->b=[]):=by
 rcases d with ⟨n,_,rfl⟩ | ⟨a,c,_,rfl⟩ | ⟨a,_,rfl⟩ | ⟨m,ls,c,t,_,rfl⟩ | rfl
 · obtain ⟨rfl,rfl⟩:=Lm e;exact ⟨(J7 o6).1,fun _=>rfl⟩
 · obtain ⟨rfl,rfl⟩:=Lm e;exact ⟨(J7 o6).1,fun _=>rfl⟩
 · obtain ⟨rfl,rfl⟩:=Lm e;exact ⟨(J7 o6).1,fun _=>rfl⟩
 · obtain ⟨rfl,rfl⟩:=Lm e;exact ⟨(J7 o6).1,fun h=>absurd rfl h⟩
 · obtain ⟨rfl,rfl⟩:=Lm e;exact ⟨(Oi o6).1,fun _=>rfl⟩
theorem oH {y:g_} (b:V8 y):y.kd=1\/y.kd=2\/y.kd=3\/y.kd=4\/y.kd=5:=by
 rcases b with ⟨n,_,rfl⟩ | ⟨a,c,_,rfl⟩ | ⟨a,_,rfl⟩ | ⟨m,ls,c,t,_,rfl⟩ | rfl
 · exact .inl rfl
 · exact .inr (.inl rfl)
 · exact .inr (.inr (.inl rfl))
 · exact .inr (.inr (.inr (.inl rfl)))
 · exact .inr (.inr (.inr (.inr rfl)))
theorem Eh {y:g_} (a:V8 y) {w:List UInt8} {k:Int} (b:k=1\/k=2\/k=3\/k=4\/k=5) (h:w=dB y) (hw:w=dB ⟨k,0,⟨#[]⟩,⟨#[]⟩,D_,[],0,⟨#[]⟩⟩):y.kd=k:=by
 have c:=oH a;have e:dB y=dB ⟨k,0,⟨#[]⟩,⟨#[]⟩,D_,[],0,⟨#[]⟩⟩:=by rw [<- h,hw]
 clear a h hw;unfold dB at e;rcases b with rfl | rfl | rfl | rfl | rfl <;> rcases c with h | h | h | h | h <;> rw [h] at e <;> first | exact h | (exfalso;revert e;decide)
theorem Js {y:g_} (d:V8 y) (b:y.kd=1):∃ n,(1<=n/\n<=200)/\y=h_ n:=by
 rcases d with h | ⟨a,c,_,rfl⟩ | ⟨a,_,rfl⟩ | ⟨m,ls,c,t,_,rfl⟩ | rfl
 · exact h
 · cases b
 · cases b
 · cases b
 · cases b
theorem Xw {y:g_} (e:V8 y) (d:y.kd=2):∃ a b,(Y5 a.data.toList=true/\b.size<=300)/\y=Ib a b:=by
 rcases e with ⟨n,_,rfl⟩ | h | ⟨a,_,rfl⟩ | ⟨m,ls,c,t,_,rfl⟩ | rfl
 · cases d
 · exact h
 · cases d
 · cases d
 · cases d
theorem mr {y:g_} (d:V8 y) (b:y.kd=3):∃ a,Y5 a.data.toList=true/\y=Nb a:=by
 rcases d with ⟨n,_,rfl⟩ | ⟨a,c,_,rfl⟩ | h | ⟨m,ls,c,t,_,rfl⟩ | rfl
 · cases b
 · cases b
 · exact h
 · cases b
 · cases b
theorem Yz {y:g_} (d:V8 y) (b:y.kd=4):∃ m ls c t,(Ze m=true/\Uf ls/\vr c t.data.toList=true)/\y=og m ls c t:=by
 rcases d with ⟨n,_,rfl⟩ | ⟨a,c,_,rfl⟩ | ⟨a,_,rfl⟩ | h | rfl
 · cases b
 · cases b
 · cases b
 · exact h
 · cases b
theorem qA {y:g_} (d:V8 y) (b:y.kd=5):y=P_:=by
 rcases d with ⟨n,_,rfl⟩ | ⟨a,c,_,rfl⟩ | ⟨a,_,rfl⟩ | ⟨m,ls,c,t,_,rfl⟩ | h
 · cases b
 · cases b
 · cases b
 · cases b
 · exact h
theorem WS (hw:O1 f≠Wj) (d:b≠[]) (x:g_):yC (f::b) x false:=by
 refine YD (fun y c e=>?_) x;obtain ⟨h1,h2⟩:=je c e;by_cases a:y.kd=4
 · apply hw;rw [h1];unfold dB;rw [if_neg O0,if_neg O0,if_neg O0,if_pos a]
 · exact d (h2 a)
theorem PO (h1:O1 f≠Wj) (h2:O1 f≠Bd) (g:O1 f≠Jh) (d:O1 f≠Zg) (c:O1 f≠Jg) (x:g_):yC (f::b) x false:=by
 refine YD (fun y a e=>?_) x;obtain ⟨hw,_⟩:=je a e;unfold dB at hw;split at hw
 · exact h2 hw
 · split at hw
   · exact g hw
   · split at hw
     · exact d hw
     · split at hw
       · exact h1 hw
       · exact c hw
theorem GN (hw:O1 f=Bd):yC [f] (h_ (xH 200 (Y1 f))) (Ih 200 (Y1 f)):=by
 constructor
 · intro y c e;obtain ⟨h1,_⟩:=je c e;obtain ⟨n,hn,rfl⟩:=Js c (Eh c (.inl rfl) h1 (by rw [hw];rfl));have i:f=Bd++32::dec n:=(Lm e).1;have hr:Y1 f=dec n:=by rw [i];exact (J7 o6).2
   obtain ⟨a,b⟩:=Bz (M:=200) (n:=n) O0 O0;rw [hr,a,b];exact ⟨rfl,rfl⟩
 · intro h _;have d:=(TK h).1;have g:Y1 f≠[]:=by rw [d];exact JI _
   show [f]=[Bd++32::dec (xH 200 (Y1 f))];rw [<- d,<- hw,<- Pe g]
theorem jT {t:List UInt8} (hw:O1 f=Jh) (g:Unq (Y1 (Y1 f)) t ok):yC [f] (Ib (J3 (O1 (Y1 f))) (J3 t)) ok:=by
 constructor
 · intro y d e;obtain ⟨h1,_⟩:=je d e;obtain ⟨a,b,j,rfl⟩:=Xw d (Eh d (.inr (.inl rfl)) h1 (by rw [hw];rfl));have k:f=Jh++32::(a.data.toList++32::P5 b.data.toList):=(Lm e).1;have hr:Y1 f=a.data.toList++32::P5 b.data.toList:=by rw [k];exact (J7 o6).2
   obtain ⟨i,c⟩:=J7 (r:=P5 b.data.toList) (L_ j.1).1;rw [<- hr] at i c;cases ok
   · exact absurd c (g.2 rfl _)
   · have:t=b.data.toList:=Yl ((g.1 rfl).symm.trans c);rw [i,this];exact ⟨rfl,rfl⟩
 · intro h _;have q:=g.1 h;have h2:Y1 (Y1 f)≠[]:=by rw [q];exact pG _
   have h1:Y1 f≠[]:=fun h=>by rw [h] at h2;exact h2 rfl
   show [f]=[Jh++32::(O1 (Y1 f)++32::P5 t)];rw [<- q,<- Pe h2,<- hw,<- Pe h1]
theorem XP (hw:O1 f=Zg):yC [f] (Nb (J3 (Y1 f))) true:=by
 constructor
 · intro y b e;obtain ⟨h1,_⟩:=je b e;obtain ⟨a,c,rfl⟩:=mr b (Eh b (.inr (.inr (.inl rfl))) h1 (by rw [hw];rfl));have i:f=Zg++32::a.data.toList:=(Lm e).1;have hr:Y1 f=a.data.toList:=by rw [i];exact (J7 o6).2
   rw [hr];exact ⟨rfl,rfl⟩
 · intro _ hx;obtain ⟨a,c,e⟩:=mr hx rfl;have g:J3 (Y1 f)=a:=U6 g_.fn e;have d:Y1 f≠[]:=fun h=>by
    rw [<- g,L9,h] at c;cases c
   show [f]=[Zg++32::Y1 f];rw [<- hw,<- Pe d]
theorem OL (hw:O1 f=Jg):yC [f] P_ (decide ((32:UInt8)∉f)):=by
 constructor
 · intro y a e;obtain ⟨h1,_⟩:=je a e;have:=qA a (Eh a (.inr (.inr (.inr (.inr rfl)))) h1 (by rw [hw];rfl));subst this;have b:=(Lm e).1;subst b;exact ⟨o6,rfl⟩
 · intro h _;rw [Ud] at h;have:=(Oi h).1;show [f]=[Jg];rw [<- this,hw]
theorem aQ {y:g_} (a:V8 y) (hw:O1 f=Wj) (e:f::b=X9 y):∃ m ls c t,(Ze m=true/\Uf ls/\vr c t.data.toList=true)/\y=og m ls c t/\Y1 f=Oc m/\b=ls.map yc++[Cf++32::Za c t]:=by
 obtain ⟨h1,_⟩:=je a e;obtain ⟨m,ls,c,t,d,rfl⟩:=Yz a (Eh a (.inr (.inr (.inr (.inl rfl)))) h1 (by rw [hw];rfl));obtain ⟨e1,g⟩:=Lm e;refine ⟨m,ls,c,t,d,rfl,?_,g⟩;rw [e1];exact (J7 o6).2
theorem yQ (hw:O1 f=Wj) (x:g_):yC [f] x false:=by
 refine YD (fun y a e=>?_) x;obtain ⟨m,ls,c,t,_,_,_,b⟩:=aQ a hw e;have:=U6 List.length b;simp at this
theorem gU {g:List UInt8} {c:Int} {o1 o2 o3:Bool} (hw:O1 f=Wj) (hm:Yw (Y1 f) m o1) (hl:Cm b ls o2) (hr:MC (Y1 g) c t o3):
 (o1=true->o2=true->O1 g=Cf->o3=true->yC (f::(b++[g])) (og m ls c t) true)/\(¬ (o1=true/\o2=true/\O1 g=Cf/\o3=true)->∀ x,yC (f::(b++[g])) x false):=by
 have u:∀ y,V8 y->f::(b++[g])=X9 y->(o1=true/\o2=true/\O1 g=Cf/\o3=true)/\og m ls c t=y:=by
  intro y a e;obtain ⟨m',h,n,d,⟨k,j,i⟩,rfl,e1,F⟩:=aQ a hw e;obtain ⟨E,l⟩:=List.append_inj' F rfl;have l:=(Lm l).1;obtain ⟨p,o⟩:=J7 (r:=Za n d) (show (32:UInt8)∉Cf by decide);rw [<- l] at p o;obtain ⟨K,a2⟩:=hl.1 h j.2 E;obtain ⟨J,I,H⟩:=hr.1 n d (Ug i).1 (Ug i).2 o;have ho:o1=true:=by
   cases o1
   · exact absurd e1 (hm.2 rfl m' k)
   · rfl
  have A:=OC (hm.1 ho).1 k (by rw [<- (hm.1 ho).2,e1]);exact ⟨⟨ho,K,p,J⟩,by rw [A,a2,I,H]⟩
 constructor
 · intro h1 h2 C B;refine ⟨fun y a e=>⟨rfl,(u y a e).2⟩,fun _ hx=>?_⟩;obtain ⟨m',h,n,d,⟨k,j,i⟩,e⟩:=Yz hx rfl;have D:ls=h:=U6 g_.ls e;have q:=hr.2 B;have w:Y1 g≠[]:=by rw [q];exact qE _ _
   have s:=(hm.1 h1).2;have v:Y1 f≠[]:=by rw [s];exact FK m
   show f::(b++[g])=(Wj++32::Oc m)::(ls.map yc++[Cf++32::Za c t]);rw [<- s,<- q,<- hw,<- C,<- Pe w,<- Pe v,<- hl.2 h2 (by rw [D];exact j.2)]
 · intro z x;exact YD (fun y a e=>z (u y a e).1) x
def RE (l:List UInt8) (x:g_) (ok:Bool):Prop:=(ok=true->V8 x/\z_ x=l)/\(ok=false->∀ y,V8 y->z_ y≠l)
theorem QG {y:g_} (b:V8 y) (e:z_ y=l):Vh l=true/\G8 10 l.dropLast=X9 y:=by
 have hc:=aG (X9 y) (nH b);have d:X9 y≠[]:=by unfold X9;(repeat' split) <;> simp
 have a:Vh l=true:=by
  rw [<- e];unfold z_;rcases xC (X9 y) with h | ⟨r,c,h⟩
  · exact absurd h d
  · rw [h,xB];have:Mc (r++[c])=(Mc r++c)++[10]:=by simp [Mc]
    rw [this];exact jU _
 refine ⟨a,?_⟩;have h2:=ay a;have:G8 10 (l.dropLast++[10])=X9 y++[[]]:=by rw [<- h2,<- e];exact hc
 rw [QS] at this;exact List.append_cancel_right this
theorem PY (h:Vh l=false) (x:g_):RE l x false:=by
 refine ⟨(fun h=>by cases h),fun _ y a e=>?_⟩;rw [(QG a e).1] at h;cases h
theorem FV (h:16000<l.length) (x:g_):RE l x false:=by
 refine ⟨(fun h=>by cases h),fun _ y a e=>?_⟩;have:=JK a;rw [e] at this;omega
theorem sW {x:g_} (h:Vh l=true) (hr:yC (G8 10 l.dropLast) x ok):(ok=true->V8 x->RE l x true)/\(¬ (ok=true/\V8 x)->∀ z,RE l z false):=by
 constructor
 · intro h1 h2;refine ⟨fun _=>⟨h2,?_⟩,(fun h=>by cases h)⟩;unfold z_;rw [<- hr.2 h1 h2,AQ];exact (ay h).symm
 · intro d z;refine ⟨(fun h=>by cases h),fun _ y c e=>?_⟩;obtain ⟨a,b⟩:=hr.1 y c (QG c e).2;exact d ⟨a,by rw [b];exact c⟩
theorem a1W (n:Int) (w:World):
 Calls prog 362 #[.int .i64 n] w fun e w'=>Nl (1<=n/\n<=200) e/\Bw w w':=by
 go_enter func362,ntmps362
 go_wp2_with fail
 refine (a1O n _).mono ?_;rintro e w1 ⟨rfl,rfl⟩;go_wp2;go_ret;exact ⟨⟨_,rfl,X4⟩,Z4 _ _⟩
theorem zU (a b:BY) (w:World) (ha:a.size<=1048700) (hb:b.size<=1048700):
 Calls prog 170 #[.agg #[.string a,.string b]] w fun e w'=>Nl (Y5 a.data.toList=true/\b.size<=300) e/\Bw w w':=by
 have c:∀ o,Bw w (w.alloc o):=fun o=>P6;go_enter func170,ntmps170
 go_wp2_with fail
 refine (c116 a _ ha).mono ?_;rintro e w1 ⟨rfl,rfl⟩;cases hn:Y5 a.data.toList
 · have g:Hid (Nl (Y5 a.data.toList=true/\b.size<=300) (.returned (.bool false))):=J_ (fun h=>by rw [hn] at h;cases h.1);go_wp2;go_ret;exact ⟨g.out,c _⟩
 · by_cases d:b.size<=300
   · have f:decide ((b.size:Int)<=300)=true:=U7;go_wp2;go_ret;exact ⟨⟨true,rfl,⟨fun _=>⟨hn,d⟩,fun _=>rfl⟩⟩,c _⟩
   · have f:decide ((b.size:Int)<=300)=false:=U7;go_wp2;go_ret;exact ⟨⟨false,rfl,⟨(fun h=>by cases h),fun h=>absurd h.2 d⟩⟩,c _⟩
theorem bU (a b:BY) (w:World) (ha:a.size<=1048700) (hb:b.size<=1048700):
 Calls prog 186 #[.agg #[.string a,.string b]] w fun e w'=>Nl (Y5 a.data.toList=true/\b.size<=300) e/\Bw w w':=by
 have c:∀ o,Bw w (w.alloc o):=fun o=>P6;go_enter func186,ntmps186
 go_wp2_with fail
 refine (NJ a _ ha).mono ?_;rintro e w1 ⟨rfl,rfl⟩;cases hn:Y5 a.data.toList
 · have g:Hid (Nl (Y5 a.data.toList=true/\b.size<=300) (.returned (.bool false))):=J_ (fun h=>by rw [hn] at h;cases h.1);go_wp2;go_ret;exact ⟨g.out,c _⟩
 · by_cases d:b.size<=300
   · have f:decide ((b.size:Int)<=300)=true:=U7;go_wp2;go_ret;exact ⟨⟨true,rfl,⟨fun _=>⟨hn,d⟩,fun _=>rfl⟩⟩,c _⟩
   · have f:decide ((b.size:Int)<=300)=false:=U7;go_wp2;go_ret;exact ⟨⟨false,rfl,⟨(fun h=>by cases h),fun h=>absurd h.2 d⟩⟩,c _⟩
theorem a1N (a b:BY) (w:World) (ha:a.size<=1048700) (d:b.size<=1048700):
 Calls prog 365 #[.agg #[.string a,.string b]] w fun e w'=>Nl (Y5 a.data.toList=true/\b.size<=300) e/\Bw w w':=by
 have f:∀ o,Bw w (w.alloc o):=fun o=>P6;go_enter func365,ntmps365
 go_wp2_with fail
 refine (zU a b _ ha d).mono ?_;rintro e w1 ⟨⟨r,rfl,hr⟩,c⟩;go_wp2;go_ret;exact ⟨⟨r,rfl,hr⟩,(f _).trans (c.mono X4)⟩
theorem a3S (a:BY) (w:World) (ha:a.size<=1048700):
 Calls prog 367 #[.string a] w fun e w'=>Nl (Y5 a.data.toList=true) e/\Bw w w':=by
 go_enter func367,ntmps367
 go_wp2_with fail
 refine (c116 a _ ha).mono ?_;rintro e w1 ⟨rfl,rfl⟩;go_wp2;go_ret;exact ⟨⟨_,rfl,Iff.rfl⟩,Z4 _ _⟩
theorem a3z (w:World):
 Calls prog 371 #[.agg #[]] w fun e w'=>Nl True e/\Bw w w':=by
 have a:∀ o,Bw w (w.alloc o):=fun o=>P6;go_enter func371,ntmps371;go_wp2;go_ret;exact ⟨Nj trivial,by first | exact a _ | exact Z4 _ _⟩
theorem a1U (m:M3) (ls:List L4) (c:Int) (t:BY) (a:OA) (d:Nat) (w:World) (hm:m.le 1048576) (hl:ls.length<=1048576) (u:∀ i,(ls.getD i E_).le 1048576) (ht:t.size<=1048576) (y:o9 w a ls):
 Calls prog 369 #[.agg #[.string m.nm,.string m.tl,.string m.ar,.slice a ls.length d,.int .i64 c,.string t]] w fun e w'=>Nl (Zf m ls c t) e/\Bw w w':=by
 have A:∀ o,Bw w (w.alloc o):=fun o=>P6;go_enter func369,ntmps369
 go_wp2_with fail
 refine (mW m _ ⟨G7 hm.1 O0,G7 hm.2.1 O0,G7 hm.2.2 O0⟩).mono ?_;rintro e k ⟨rfl,l⟩;have f:Below (w.heap.size+1) (w.alloc (.cells #[vS m.nm,vS m.tl,vS m.ar,vL a ls.length d,vI c,vS t] 229)) k:=KD l;have q:=(Z7 w [vS m.nm,vS m.tl,vS m.ar,vL a ls.length d,vI c,vS t] 229).below f O0;have j:=(A _).trans (f.mono O0);have s:w.heap.size<k.heap.size:=by have h:=f.size;simp at h;omega
 have k3:=q 3 _ rfl;clear l;cases hn:Ze m
 · have b:Hid (Nl (Zf m ls c t) (.returned (.bool false))):=J_ (fun h=>by have h1:=h.1;rw [hn] at h1;cases h1);go_wp2;go_ret;exact ⟨b.out,j⟩
 · go_wp2_with fail
   refine (c168 a d ls _ hl u (l7 y j)).mono ?_;rintro e w2 ⟨⟨r,rfl,hr⟩,g⟩;have n:=X5 j g;have p:=q.below g s;have k4:=p 4 _ rfl;have k5:=p 5 _ rfl;clear g;cases r
   · have b:Hid (Nl (Zf m ls c t) (.returned (.bool false))):=J_ (fun h=>absurd (hr.2 h.2.1) o6);clear hr;go_wp2;go_ret;exact ⟨b.out,n⟩
   · have v:=hr.1 rfl;clear hr
     go_wp2_with fail
     refine (pM c t _ O0).mono ?_;rintro e w3 ⟨rfl,x⟩;have z:=X5 n x;have b:Hid (Nl (Zf m ls c t) (.returned (.bool (vr c t.data.toList)))):=⟨_,rfl,⟨fun h=>⟨hn,v,h⟩,fun h=>h.2.2⟩⟩;go_wp2;go_ret;exact ⟨b.out,z⟩
def BH (is:List L4):List Value:=is.flatMap fun x=>[.bool x.has,.string x.nm,.int .i64 x.cd,.string x.tx]
theorem pW (is:List L4):(BH is).length=is.length*4:=by
 induction is with
 | nil=>rfl
 | cons x is ih=>
  show ([_,_,_,_]++BH is).length=_;rw [D9,ih];simp;omega
theorem eX (is:List L4):∀ i,i<is.length->(BH is)[i*4]?=some (.bool (is.getD i E_).has)/\(BH is)[i*4+1]?=some (.string (is.getD i E_).nm)/\(BH is)[i*4+2]?=some (.int .i64 (is.getD i E_).cd)/\(BH is)[i*4+3]?=some (.string (is.getD i E_).tx):=by
 induction is with
 | nil=>intro i h;exact absurd h (J8 _)
 | cons x is ih=>
  intro i h
  cases i with
  | zero=>exact ⟨rfl,rfl,rfl,rfl⟩
  | succ i=>
   have a:i<is.length:=by simpa using h
   have k:=ih i a;have e:∀ j,(BH (x::is))[(i+1)*4+j]?=(BH is)[i*4+j]?:=fun j=>by
    show ([_,_,_,_]++BH is)[(i+1)*4+j]?=_;rw [Ue U7]
    congr 1
    simp;omega
   have e0:=e 0;simp only [En] at e0;rw [e0,e 1,e 2,e 3];simpa using k
structure Qg (w:World) (B:Nat) (ao:OA) (is:List L4):Prop where
 at':o9 w ao is
 own:is=[]\/∃ g,ao=some ⟨g,0,none⟩/\B<=g/\QA w g is.length
theorem gK (h:w.ownsRow B 185 4 v n (BH is)) (f:n=is.length):∃ ao c,v=.slice ao n c/\Qg w B ao is:=by
 subst f;have a:=h;obtain ⟨h1,h2⟩:=h;rcases h2 with ⟨rfl,h0⟩ | ⟨g,p,cur,rfl,o,m,_⟩
 · have e:=Va.1 h0;subst e;exact ⟨none,0,rfl,.inl rfl,.inl rfl⟩
 · have b:=Jf m;refine ⟨some (aA g 0),p,rfl,.inr ⟨g,0,rfl,b,fun i l=>?_⟩,.inr ⟨g,rfl,o,b,fun j d=>?_,fun j=>a.frozenAt j⟩⟩
   · have k:=eX is i l;simp only [L8];rw [a.cellAt _ O0,a.cellAt _ O0,a.cellAt _ O0,a.cellAt _ O0];exact k
   · rw [a.cellAt j d];have:j<(BH is).length:=by rw [pW];exact d
     exact ⟨_,Z8 this⟩
theorem Qg.mono {B':Nat} {ao:OA} (h:Qg w B ao is) (hB:B'<=B):Qg w B' ao is:=
 ⟨h.at',h.own.imp id fun ⟨g,h1,h2,a⟩=>⟨g,h1,G7 hB h2,a⟩⟩
theorem a0w (w:World) (x y z q:Value) (t:TypeId):∀ j u,[x,y,z,q][j]?=some u->(w.alloc (.cells #[x,y,z,q] t)).cell? ((⟨w.heap.size,0,none⟩:Addr).add j)=some u:=by
 intro j u h
 match j,h with
 | 0,h=>simp at h;subst h;simp [Addr.add]
 | 1,h=>simp at h;subst h;simp [Addr.add]
 | 2,h=>simp at h;subst h;simp [Addr.add]
 | 3,h=>simp at h;subst h;simp [Addr.add]
theorem vX (a:g=w.heap.size) (x y z q:Value) (t:TypeId):∀ j u,[x,y,z,q][j]?=some u->(w.alloc (.cells #[x,y,z,q] t)).cell? ((⟨g,0,none⟩:Addr).add j)=some u:=by
 subst a;exact a0w w x y z q t
theorem vH (is:List L4) (x:L4):BH (is++[x])=BH is++[.bool x.has,.string x.nm,.int .i64 x.cd,.string x.tx]:=by simp [BH]
def XR (ss:List (List UInt8)) (k:Nat) (xs:List L4):Prop:=xs.length=k/\∀ i,i<k->dm (ss.getD i []) (xs.getD i E_) true/\(xs.getD i E_).le 1048576
theorem XL {k:Nat} {x:L4} (h:XR ss k xs) (hr:dm (ss.getD k []) x true) (hx:x.le 1048576):XR ss (k+1) (xs++[x]):=by
 obtain ⟨h1,h2⟩:=h;refine ⟨by simp [h1],fun i hi=>?_⟩;rcases Q7 i k with a | a
 · have e:(xs++[x]).getD i E_=xs.getD i E_:=by
    simp only [Fj];rw [S_ O0]
   rw [e];exact h2 i a
 · obtain rfl:i=k:=O0;have e:(xs++[x]).getD i E_=x:=by
    simp only [Fj];rw [Ue O0,h1];simp
   rw [e];exact ⟨hr,hx⟩
theorem jH (h:XR ss ss.length xs):Cm ss xs true/\∀ i,(xs.getD i E_).le 1048576:=by
 refine ⟨RF h.1 fun i a=>(h.2 i a).1,fun i=>?_⟩;rcases Q7 i ss.length with a | a
 · exact (h.2 i a).2
 · have:xs.getD i E_=E_:=by
    simp only [Fj];rw [Yb (by have:=h.1;omega)];rfl
   rw [this];exact ⟨J4 _,J4 _⟩
def YX (w w':World) (ss:List (List UInt8)) (e:Ending):Prop:=∃ (xs:List L4) (ok:Bool) (ao:OA) (c:Nat),e=.returned (.tuple #[.slice ao xs.length c,.bool ok])/\Cm ss xs ok/\(∀ i,(xs.getD i E_).le 1048576)/\xs.length<=ss.length/\Qg w' w.heap.size ao xs
theorem a3j (C o Q:Nat) (ss:List (List UInt8)) (w:World) (A:Dc w) (hc:Ai w C o ss) (y:∀ i,i<ss.length->(ss.getD i []).length<=16000) (hl:ss.length<=16001):
 Calls prog 247 #[.slice (some ⟨C,o,none⟩) ss.length Q] w fun e w'=>YX w w' ss e/\Bw w w':=by
 obtain ⟨D,B,H,F,E⟩:=info_parts VJ;have V:=U0 hc;have U:=U0 A;have R:=U0 y;have O:=hc.1;clear hc y A;go_enter func247,ntmps247
 go_wp2_with fail
 go_loopw [4,11] (fun v i wr=>∃ (k:Nat) (xs:List L4),k<=ss.length/\i=.int .i64 k/\wr.ownsRow w.heap.size 185 4 v k (BH xs)/\Hid (XR ss k xs)/\Below w.heap.size w wr) (fun _ i _=>ss.length - (RowKit.intOf i).toNat)
 case atStart=>exact ⟨0,[],J4 _,rfl,⟨rfl,.inl ⟨rfl,rfl⟩⟩,⟨rfl,fun i B=>O0⟩,Z4 _ _⟩
 case round=>
  obtain ⟨k,xs,hk,rfl,g,ha,b⟩:=hrel;by_cases l:k<ss.length
  · have hcell:=(b.cell (by exact O)).trans (V.out.2 k l);have hr:=R.out k l;have J:=x9 U.out b;have p:Hid (∀ x,dm (ss.getD k []) x false->Cm ss [] false):=fun x h=>RH l h [];have n:Hid (∀ x:L4,dm (ss.getD k []) x true->x.le 1048576->XR ss (k+1) (xs++[x])):=fun x h1 h2=>XL ha.out h1 h2;have hz0':=b.size;generalize ss.getD k []=t at*
    go_wp2_with fail
    refine (a3o t _ hr (x9 J ?drw)).mono ?_
    case drw=>first | exact Z4 _ _ | exact (Z4 _ _).drew | exact (Z4 _ _).drew.drew
    rintro e r ⟨⟨x,ok,rfl,d,hx⟩,m⟩;have q:Hid (Bw wr r):=by first | exact m | exact ((Z4 _ _).drew).trans m
    have z:=Du g q.out;have hz1':=q.out.size;have f:=X5 b q.out;clear m g;unfold L4.v;cases ok
    · have S:Hid (∀ u,YX w u ss (.returned (.tuple #[vN,.bool false]))):=fun u=>⟨[],false,none,0,rfl,p.out x d,fun i=>⟨J4 _,J4 _⟩,J4 _,.inl rfl,.inl rfl⟩;clear p n d;go_wp2;go_ret2;exact ⟨S.out _,f.alloc f.size _⟩
    · have a:=U0 (n.out x d hx);clear p n d
      go_wp2_with (at_builtin;refine wpList_append_own _ rfl _ _ 102 rfl w.heap.size 185 D (.agg #[.bool false,.string ⟨#[]⟩,.int .i64 0,.string ⟨#[]⟩]) 4 48 underlying102 B H F E rfl o6 _ _ _ rfl ((z.alloc _).alloc _) ⟨r.heap.size+1,0,none⟩ 1 1 [_,_,_,_] rfl rfl (vX X4 _ _ _ _ _) (by intro u s;simp at s;rcases s with rfl | rfl | rfl | rfl <;> rfl) (by unfold maxLen;omega) O0 U7 ?_;intro v' w2 I N _)
      go_roundw
      case rel=>
       have P:=((f.alloc f.size _).alloc U7 _).grown N U7 (fun j L=>(z.lt j L).1);refine ⟨k+1,xs++[x],O0,by go_num,?_,a,P⟩;rw [vH];exact I
      case measure=>simp [RowKit.intOf];omega
  · have a:Hid (Cm ss xs true/\(∀ i,(xs.getD i E_).le 1048576)/\xs.length=ss.length):=by
     obtain rfl:k=ss.length:=O0;exact ⟨(jH ha.out).1,(jH ha.out).2,ha.out.1⟩
    obtain rfl:k=ss.length:=O0;obtain ⟨ao,c,hv,K⟩:=gK g a.out.2.2.symm;subst hv;go_wp2;go_ret2;exact ⟨⟨xs,true,ao,c,by rw [a.out.2.2];rfl,a.out.1,a.out.2.1,by rw [a.out.2.2];exact v_ _,K⟩,b⟩
