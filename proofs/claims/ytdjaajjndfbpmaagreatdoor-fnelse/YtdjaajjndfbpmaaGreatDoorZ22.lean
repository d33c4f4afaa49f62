import Derived.Test.YtdjaajjndfbpmaaGreatDoorZ21
set_option linter.unusedVariables false
set_option maxHeartbeats 8000000
set_option maxRecDepth 100000
namespace Go.Proofs.YtdjaajjndfbpmaaGreatDoor
open Proofs.Tryz
open Go.RowKit
open Classical in
noncomputable def Ca (l:List UInt8):List I3×Bool:=if h:∃ p:List I3×Bool,Z_ l p.1 p.2 then h.choose else ([],false)
theorem Wy {l:List UInt8} {is:List I3} {ok:Bool} (h:Z_ l is ok):Ca l=(is,ok):=by
 have hx:∃ p:List I3×Bool,Z_ l p.1 p.2:=⟨(is,ok),h⟩;have e:Ca l=hx.choose:=by unfold Ca;exact dif_pos hx
 obtain ⟨b,a⟩:=Pz hx.choose_spec h;rw [e];exact Prod.ext b a
structure RS where
 has:Bool
 T:List I3
 nR:List R2
def Mj:RS:=⟨false,[],[]⟩
noncomputable def Oc (tl ar:ByteArray) (l:List UInt8):TN:=if (Ca l).2=true then l9 (Ca l).1 ar [] else l6 7 tl 0
noncomputable def P7 (tl ar:ByteArray) (s:RS) (r:R2):TN×RS:=
 if s.has=true then (l9 s.T ar (s.nR++[r]),⟨true,s.T,s.nR++[r]⟩)
 else if r.code=0 then (Oc tl ar r.tx.data.toList,⟨(Ca r.tx.data.toList).2,(Ca r.tx.data.toList).1,s.nR⟩)
 else if r.code=4 then (l6 4 tl 0,s) else (l6 5 tl 0,s)
theorem dh {l:List UInt8} {is:List I3} {ok:Bool} (h:Z_ l is ok):is.length<=40/\∀ i,(is.getD i A_).tx.size<=300:=by
 cases ok
 · rw [(h.2 rfl).1];exact ⟨X0,fun i=>by simp [A_,ByteArray.size]⟩
 have a:=(h.1 rfl).1;unfold Zd at a;simp only [V7,Q_] at a;refine ⟨a.1.2,fun i=>?_⟩;rcases U5 i is.length with b | b
 · have:=Nf.1 a.2 (is.getD i A_) (by simp [List.getD,b])
   unfold Zb at this;simp only [V7,Q_] at this;omega
 have e:is.getD i A_=A_:=by simp [List.getD,Xe b]
 rw [e];simp [A_,ByteArray.size]
theorem Yx (l:List UInt8):Ca l=([],false)\/Z_ l (Ca l).1 (Ca l).2:=by
 unfold Ca;split
 · rename_i h;exact .inr h.choose_spec
 exact .inl rfl
theorem Oo (l:List UInt8):(Ca l).1.length<=40/\∀ i,((Ca l).1.getD i A_).tx.size<=300:=by
 rcases Yx l with h | h
 · rw [h];exact ⟨X0,fun i=>by simp [A_,ByteArray.size]⟩
 exact dh h
structure Cu (s:RS):Prop where
 tl:s.T.length<=40
 ts:∀ i,(s.T.getD i A_).tx.size<=300
 rs:∀ i,(s.nR.getD i Jc).tx.size<=1048576
theorem xu:Cu Mj:=⟨by simp [Mj],fun i=>by simp [Mj,A_,ByteArray.size],fun i=>by simp [Mj,Jc,ByteArray.size]⟩
theorem Yg {rs:List R2} {x:R2} {M:Nat} (h:∀ i,(rs.getD i Jc).tx.size<=M) (hx:x.tx.size<=M) (i:Nat):((rs++[x]).getD i Jc).tx.size<=M:=by
 rcases yo i rs.length with a | a | a
 · have e:(rs++[x]).getD i Jc=rs.getD i Jc:=by simp [List.getD,Eb a]
   rw [e];exact h i
 · have e:(rs++[x]).getD i Jc=x:=by subst a;simp [List.getD]
   rw [e];exact hx
 have e:(rs++[x]).getD i Jc=Jc:=by simp [List.getD,Xe (show (rs++[x]).length<=i by simp;omega)]
 rw [e];exact I5 _
theorem kI {tl ar:ByteArray} {s:RS} {r:R2} (h:Cu s) (a:r.tx.size<=1048576):Cu (P7 tl ar s r).2:=by
 unfold P7;split
 · exact ⟨h.tl,h.ts,Yg h.rs a⟩
 split
 · exact ⟨(Oo _).1,(Oo _).2,h.rs⟩
 split <;> exact h
theorem YE {tl ar:ByteArray} {s:RS} {r:R2}:(P7 tl ar s r).2.nR.length<=s.nR.length+1:=by
 unfold P7;split
 · simp
 split
 · simp
 split <;> simp
def x9 (rs:List R2):List Value:=rs.flatMap fun x=>[.int .i64 x.code,.string x.tx]
theorem Sj (rs:List R2) (x:R2):x9 (rs++[x])=x9 rs++[.int .i64 x.code,.string x.tx]:=by simp [x9]
theorem Wv (rs:List R2) (i:Nat) (h:i<rs.length):(x9 rs)[i*2]?=some (.int .i64 (rs.getD i Jc).code)/\(x9 rs)[i*2+1]?=some (.string (rs.getD i Jc).tx):=by
 induction rs generalizing i with
 | nil=>simp at h
 | cons x r ih=>
  cases i with
  | zero=>exact ⟨rfl,rfl⟩
  | succ i=>
   have:=ih i (by simpa using h);have e:∀ j,(x9 (x::r))[(i+1)*2+j]?=(x9 r)[i*2+j]?:=fun j=>by
    show ([Value.int .i64 x.code,.string x.tx]++x9 r)[(i+1)*2+j]?=_;rw [ji J4]
    congr 1
    simp;omega
   have a:=e 0;simp only [Nh] at a;rw [a,e 1];exact this
theorem Kn {w:World} {base:Nat} {v:Value} {rs:List R2} (h:w.ownsRow base 34 2 v rs.length (x9 rs)):∃ a cap,v=.slice a rs.length cap/\ui w a rs:=by
 have b:=h;rcases h.2 with ⟨hv,h0⟩ | ⟨g,cap,cur,hv,hg,d,_⟩
 · exact ⟨none,0,by rw [hv,h0],.inl (Ce.1 h0)⟩
 refine ⟨some ⟨g,0,none⟩,cap,hv,?_⟩;subst hv;refine .inr ⟨g,0,rfl,Q4 d,fun i c=>?_⟩;obtain ⟨f,e⟩:=Wv rs i c;rw [R7,b.cellAt _ O0,b.cellAt _ O0];exact ⟨f,e⟩
structure Fb (base b0 b1 b2 b3:Nat) (u:World) (nm tl ar:ByteArray) (s:RS) (v1 v2:Value):Prop where
 AU:base<=b0
 yS:base<=b1
 DU:base<=b2
 QU:base<=b3
 h0:u.heap[b0]?=some (.cells #[.bool s.has] 4 (0,0))
 h1:u.heap[b1]?=some (.cells #[v1] 185 (0,0))
 h2:u.heap[b2]?=some (.cells #[v2] 126 (0,0))
 h3:u.heap[b3]?=some (.cells #[.string nm,.string tl,.string ar] 47 (0,0))
 o1:u.ownsRow base 34 2 v1 s.nR.length (x9 s.nR)
 o2:u.ownsRow base 165 3 v2 s.T.length (J5 s.T)
theorem J6 {u:World} {a b:Nat} {x y:Array Value} {t c:TypeId} {p q:Nat×Nat} (h:u.heap[a]?=some (.cells x t p)) (k:u.heap[b]?=some (.cells y c q)) (d:t≠c):a≠b:=fun e=>by
 subst e;rw [h] at k;injection k with k;injection k with _ k _;exact d k
theorem Fb.below {base b0 b1 b2 b3:Nat} {u u':World} {nm tl ar:ByteArray} {s:RS} {v1 v2:Value} (h:Fb base b0 b1 b2 b3 u nm tl ar s v1 v2) (a:Below u.heap.size u u'):Fb base b0 b1 b2 b3 u' nm tl ar s v1 v2:=
 ⟨h.AU,h.yS,h.DU,h.QU,(a.block _ (Q4 h.h0)).trans h.h0,(a.block _ (Q4 h.h1)).trans h.h1,(a.block _ (Q4 h.h2)).trans h.h2,(a.block _ (Q4 h.h3)).trans h.h3,ownsRow_below h.o1 a,ownsRow_below h.o2 a⟩
theorem Nt {rs:List R2} {k:Nat} (h:k<rs.length) (a:Tp (rs.take k)=true) (hx:vr (rs.getD k Jc).code (rs.getD k Jc).tx.data.toList=true):Tp (rs.take (k+1))=true:=by
 have e:rs.getD k Jc=rs[k]:=by simp [h]
 rw [e] at hx;unfold Tp at a ⊢;rw [Rh h,Vi,a];simp [hx]
theorem Gw {rs:List R2} {k:Nat} (h:k<rs.length) (hx:vr (rs.getD k Jc).code (rs.getD k Jc).tx.data.toList=false):Tp rs=false:=by
 have e:rs.getD k Jc=rs[k]:=by simp [h]
 rw [e] at hx;unfold Tp;rw [List.all_eq_false];exact ⟨rs[k],Ea h,by simp [hx]⟩
theorem Qp {T:List I3} {arg:ByteArray} {nR:List R2} (h:Zd T=false\/300<arg.size\/14<nR.length\/Tp nR=false):l9 T arg nR=L6:=by
 unfold l9;rw [R3];rintro ⟨h1,h2,h3,a⟩;rcases h with h | h | h | h
 · rw [h] at h1;cases h1
 · omega
 · omega
 rw [h] at a;cases a
theorem Ww {T:List I3} {arg:ByteArray} {nR:List R2} (h1:Zd T=true) (h2:arg.size<=300) (h3:nR.length<=14) (a:Tp nR=true):l9 T arg nR=fin T arg nR:=by
 unfold l9;rw [Y3 ⟨h1,h2,h3,a⟩]
theorem rO (c:Int) (t:ByteArray) (k:Int) (w:World):
 Calls prog 126 #[.int .i64 c,.string t,.int .i64 k] w fun e w'=>e=.returned (l6 c t k).v/\Below w.heap.size w w':=by
 go_enter func126,ntmps126;go_wp2;refine K4 (v:=(l6 c t k).v) (by simp [results,results126,go_sem,l6,TN.v]) rfl ⟨rfl,bA⟩
theorem qP (s:ByteArray) (w:World) (a:s.size<=1048700):
 Calls prog 70 #[.string s,.int .u8 10] w fun e w'=>(∃ g b,e=.returned (.slice (some ⟨g,0,none⟩) (E8 10 s.data.toList).length b)/\w.heap.size<=g/\K7 w' g (E8 10 s.data.toList))/\Below w.heap.size w w':=c70 s 10 w a
theorem pO (s:ByteArray) (n:Int) (w:World) (h:s.size<=1048700) (h0:0<=n):
 Calls prog 149 #[.string s,.int .i64 n] w fun e w'=>e=.returned (.string (Vb s n))/\Below w.heap.size w w':=by
 obtain ⟨m,rfl⟩:=A8 h0;obtain ⟨hc1,j⟩:=Np 10 s.data.toList;have i:s.data.toList.length=s.size:=X0;have a3u:(E8 10 s.data.toList).length<=1048701:=O0;go_enter func149,ntmps149
 go_wp2_with fail
 refine (qP s _ h).mono ?_;rintro e w1 ⟨⟨g,cp,rfl,hg,d⟩,f⟩;have k:=Q0 d;have a:Hid (Vb s (m:Int)=if (m:Int)<((E8 10 s.data.toList).length:Int) then Q3 ((E8 10 s.data.toList).getD m []) else ⟨#[]⟩):=rfl;clear d i j;generalize E8 10 s.data.toList=L at*;by_cases c:(m:Int)<(L.length:Int)
 · have l0:=k.out.2 m O0
   have b:Hid (Vb s (m:Int)=Q3 (L.getD m [])):=by rw [a.out,Y3 c];rfl
   clear a;go_wp2;go_ret;exact ⟨by rw [b.out];rfl,f⟩
 have b:Hid (Vb s (m:Int)=⟨#[]⟩):=by rw [a.out,R3 c];rfl
 clear a;go_wp2;go_ret;exact ⟨by rw [b.out];rfl,f⟩
def z6:Array Value:=#[.bool false,.int .i64 0,.string ⟨#[]⟩,.bool false,.string ⟨#[]⟩,.int .i64 0]
def W0 (a:Option Addr) (n cap:Nat) (w:World):World:=(w.alloc (.cells #[.slice a n cap] 126)).alloc (.cells z6 147)
theorem K5 (a:Option Addr) (n cap:Nat) (w:World):Below w.heap.size w (W0 a n cap w):=bA.alloc X0 _
theorem Aa (a:Option Addr) (n cap:Nat) (w:World):(W0 a n cap w).heap.size=w.heap.size+2:=by simp [W0]
theorem F6 {a:Option Addr} {n cap:Nat} {w u:World} (h:Below (w.heap.size+2) (W0 a n cap w) u):
 (u.cell? ⟨w.heap.size,0,none⟩=some (.slice a n cap)/\u.cell? ⟨w.heap.size+1,0,none⟩=some (.bool false)/\u.cell? ⟨w.heap.size+1,1,none⟩=some (.int .i64 0)/\u.cell? ⟨w.heap.size+1,2,none⟩=some (.string ⟨#[]⟩)/\u.cell? ⟨w.heap.size+1,3,none⟩=some (.bool false)/\u.cell? ⟨w.heap.size+1,4,none⟩=some (.string ⟨#[]⟩)/\u.cell? ⟨w.heap.size+1,5,none⟩=some (.int .i64 0))/\∀ j,u.frozen? ⟨w.heap.size+1,j,none⟩=false:=by
 have e:∀ b j,b<w.heap.size+2->u.cell? ⟨b,j,none⟩=(W0 a n cap w).cell? ⟨b,j,none⟩:=fun b j c=>h.cell (by simpa using c);have f:∀ j,u.frozen? ⟨w.heap.size+1,j,none⟩=(W0 a n cap w).frozen? ⟨w.heap.size+1,j,none⟩:=fun j=>h.frozen X0;refine ⟨?_,fun j=>?_⟩
 · rw [e _ _ O0,e _ _ O0,e _ _ O0,e _ _ O0,e _ _ O0,e _ _ O0,e _ _ O0]
   simp [W0,z6]
 rw [f];simp [W0,z6]
theorem K8 {a:Option Addr} {n cap:Nat} {w u:World} (h:Below (w.heap.size+2) (W0 a n cap w) u):u.heap[w.heap.size+1]?=some (.cells z6 147 (0,0)):=by
 rw [h.block _ O0];exact X6 X0 _
theorem Ua {u:World} {B:Nat} (h:u.heap[B]?=some (.cells z6 147 (0,0))) (a v1 v2 b c d:Value):
 (u.setCell ⟨B,0,none⟩ a).cell? ⟨B,0,none⟩=some a/\((u.setCell ⟨B,0,none⟩ a).setCell ⟨B,1,none⟩ v1).cell? ⟨B,1,none⟩=some v1/\(((u.setCell ⟨B,0,none⟩ a).setCell ⟨B,1,none⟩ v1).setCell ⟨B,2,none⟩ v2).cell? ⟨B,2,none⟩=some v2/\((((u.setCell ⟨B,0,none⟩ a).setCell ⟨B,1,none⟩ v1).setCell ⟨B,2,none⟩ v2).setCell ⟨B,3,none⟩ b).cell? ⟨B,3,none⟩=some b/\(((((u.setCell ⟨B,0,none⟩ a).setCell ⟨B,1,none⟩ v1).setCell ⟨B,2,none⟩ v2).setCell ⟨B,3,none⟩ b).setCell ⟨B,4,none⟩ c).cell? ⟨B,4,none⟩=some c/\((((((u.setCell ⟨B,0,none⟩ a).setCell ⟨B,1,none⟩ v1).setCell ⟨B,2,none⟩ v2).setCell ⟨B,3,none⟩ b).setCell ⟨B,4,none⟩ c).setCell ⟨B,5,none⟩ d).cell? ⟨B,5,none⟩=some d:=by
 have h0:=o8 u B 0 _ 147 a h;have h1:=o8 _ B 1 _ 147 v1 h0;have h2:=o8 _ B 2 _ 147 v2 h1;have h3:=o8 _ B 3 _ 147 b h2;have e:=o8 _ B 4 _ 147 c h3;have f:=o8 _ B 5 _ 147 d e;exact ⟨Z5 h0 0,Z5 h1 1,Z5 h2 2,Z5 h3 3,Z5 e 4,Z5 f 5⟩
theorem U4 {u:World} {B m:Nat} (a:m<=B) (e v1 v2 d c b:Value):Below m u ((((((u.setCell ⟨B,0,none⟩ e).setCell ⟨B,1,none⟩ v1).setCell ⟨B,2,none⟩ v2).setCell ⟨B,3,none⟩ d).setCell ⟨B,4,none⟩ c).setCell ⟨B,5,none⟩ b):=
 ((((((F4 m u).setCell (by exact a) _).setCell (by exact a) _).setCell (by exact a) _).setCell (by exact a) _).setCell (by exact a) _).setCell (by exact a) _
theorem MM (a:Option Addr) (cap:Nat) (T:List I3) (arg:ByteArray) (a2:Option Addr) (cap2:Nat) (nR:List R2) (w:World) (m:∀ i,(T.getD i A_).tx.size<=1048700) (n:T.length<=1048576) (D:Da w a T) (l:Zd T=false\/300<arg.size\/14<nR.length) (A:A7 w) (har:arg.size<=1048576) (hrl:nR.length<=1048576):
 Calls prog 118 #[.agg #[.slice a T.length cap],.string arg,.slice a2 nR.length cap2] w fun e w'=>e=.returned (l9 T arg nR).v/\Below w.heap.size w w':=by
 have q:=Q0 D;have o:Hid (l9 T arg nR=L6):=Qp (by
  rcases l with h | h | h
  · exact .inl h
  · exact .inr (.inl h)
  exact .inr (.inr (.inl h)))
 have p:=Q0 A;clear D A;have key:∀ w1:World,Below (w.heap.size+2) (W0 a T.length cap w) w1->Hid (Below w.heap.size w w1):=fun w1 h=>(K5 a T.length cap w).trans (h.mono O0);by_cases k:Zd T=true;rotate_left
 · have E:Zd T=false:=by simpa using k
   clear l k;go_enter func118,ntmps118
   go_wp2_with fail
   refine (c143 a cap T (W0 a T.length cap w) m n (Va q.out (K5 _ _ _ _)) (o9 p.out (K5 _ _ _ _))).mono ?_;rintro e w1 ⟨rfl,c⟩;rw [E];have b:Below (w.heap.size+2) (W0 a T.length cap w) w1:=by rw [Aa] at c;exact c
   obtain ⟨⟨r,z,y,x,u,t,s⟩,C⟩:=F6 b;go_wp2;obtain ⟨s0,j,g,f,s4,d⟩:=Ua (K8 b) (.bool false) (.int .i64 0) (.string ⟨#[]⟩) (.bool false) (.string ⟨#[]⟩) (.int .i64 0);refine K4 (v:=L6.v) (by simp [results,results118,go_sem,s0,j,g,f,s4,d,L6,TN.v]) rfl ⟨by rw [o.out],?_⟩;exact (key w1 b).out.trans (U4 O0 _ _ _ _ _ _)
 have B:300<arg.size\/14<nR.length:=by
  rcases l with h | h
  · rw [k] at h;cases h
  exact h
 clear l;by_cases xR:300<arg.size
 · clear B
   go_enter func118,ntmps118
   go_wp2_with fail
   refine (c143 a cap T (W0 a T.length cap w) m n (Va q.out (K5 _ _ _ _)) (o9 p.out (K5 _ _ _ _))).mono ?_;rintro e w1 ⟨rfl,c⟩;rw [k];have b:Below (w.heap.size+2) (W0 a T.length cap w) w1:=by rw [Aa] at c;exact c
   obtain ⟨⟨r,z,y,x,u,t,s⟩,C⟩:=F6 b;go_wp2;obtain ⟨s0,j,g,f,s4,d⟩:=Ua (K8 b) (.bool false) (.int .i64 0) (.string ⟨#[]⟩) (.bool false) (.string ⟨#[]⟩) (.int .i64 0);refine K4 (v:=L6.v) (by simp [results,results118,go_sem,s0,j,g,f,s4,d,L6,TN.v]) rfl ⟨by rw [o.out],?_⟩;exact (key w1 b).out.trans (U4 O0 _ _ _ _ _ _)
 have h14:14<nR.length:=O0;clear B;go_enter func118,ntmps118
 go_wp2_with fail
 refine (c143 a cap T (W0 a T.length cap w) m n (Va q.out (K5 _ _ _ _)) (o9 p.out (K5 _ _ _ _))).mono ?_;rintro e w1 ⟨rfl,c⟩;rw [k];have b:Below (w.heap.size+2) (W0 a T.length cap w) w1:=by rw [Aa] at c;exact c
 obtain ⟨⟨r,z,y,x,u,t,s⟩,C⟩:=F6 b;go_wp2;obtain ⟨s0,j,g,f,s4,d⟩:=Ua (K8 b) (.bool false) (.int .i64 0) (.string ⟨#[]⟩) (.bool false) (.string ⟨#[]⟩) (.int .i64 0);refine K4 (v:=L6.v) (by simp [results,results118,go_sem,s0,j,g,f,s4,d,L6,TN.v]) rfl ⟨by rw [o.out],?_⟩;exact (key w1 b).out.trans (U4 O0 _ _ _ _ _ _)
theorem nL (c:Int) (t:ByteArray) (w:World):
 Calls prog 120 #[.int .i64 c,.string t] w fun e w'=>e=.returned (.agg #[.bool true,.int .i64 c,.string t,.bool false,.string ⟨#[]⟩,.int .i64 0])/\Below w.heap.size w w':=by
 go_enter func120,ntmps120;go_wp2;refine K4 (v:=.agg #[.bool true,.int .i64 c,.string t,.bool false,.string ⟨#[]⟩,.int .i64 0]) (by simp [results,results120,go_sem]) rfl ⟨rfl,?_⟩;exact bA
theorem YQ (nm tl ar:ByteArray) (w:World):
 Calls prog 82 #[.agg #[.string nm,.string tl,.string ar]] w fun e w'=>e=.returned (.agg #[.bool false,.int .i64 0,.string ⟨#[]⟩,.bool false,.string tl,.int .i64 0])/\Below w.heap.size w w':=by
 go_enter func82,ntmps82;go_wp2;refine K4 (v:=.agg #[.bool false,.int .i64 0,.string ⟨#[]⟩,.bool false,.string tl,.int .i64 0]) (by simp [results,results82,go_sem]) rfl ⟨rfl,?_⟩;exact bA.alloc X0 _
theorem lQ (nm tl ar:ByteArray) (w:World):
 Calls prog 83 #[.agg #[.string nm,.string tl,.string ar]] w fun e w'=>∃ b0 b1 b2 b3,e=.returned (.func (.func 117) #[] #[.pointer (some ⟨b0,0,none⟩),.pointer (some ⟨b1,0,none⟩),.pointer (some ⟨b2,0,none⟩),.pointer (some ⟨b3,0,none⟩)])/\Fb w.heap.size b0 b1 b2 b3 w' nm tl ar Mj (.slice none 0 0) (.slice none 0 0)/\Below w.heap.size w w':=by
 go_enter func83,ntmps83;go_wp2;go_ret;refine ⟨w.heap.size+1+1+1,w.heap.size+1+1,w.heap.size+1,w.heap.size,rfl,⟨O0,O0,O0,O0,?_,?_,?_,?_,F9 _ _ _ _,F9 _ _ _ _⟩,?_⟩
 · exact X6 X0 _
 · rw [Jf _ _ _ X0];exact X6 X0 _
 · rw [Jf _ _ _ (by first | (simp;done) | (simp;omega)),Jf _ _ _ X0];exact X6 X0 _
 · rw [Jf _ _ _ (by first | (simp;done) | (simp;omega)),Jf _ _ _ (by first | (simp;done) | (simp;omega)),Jf _ _ _ X0];exact X6 X0 _
 exact ((bA.alloc X0 _).alloc (by first | (simp;done) | (simp;omega)) _).alloc (by first | (simp;done) | (simp;omega)) _
theorem QN (a:Option Addr) (cap:Nat) (T:List I3) (arg:ByteArray) (a2:Option Addr) (cap2:Nat) (nR:List R2) (w:World) (m:∀ i,(T.getD i A_).tx.size<=1048700) (n:T.length<=1048576) (B:Da w a T) (l:Zd T=false\/300<arg.size\/14<nR.length) (har:arg.size<=1048576) (hrl:nR.length<=1048576):
 Calls prog 124 #[.agg #[.slice a T.length cap],.string arg,.slice a2 nR.length cap2] w fun e w'=>e=.returned (l9 T arg nR).v/\Below w.heap.size w w':=by
 have p:=Q0 B;have o:Hid (l9 T arg nR=L6):=Qp (by
  rcases l with h | h | h
  · exact .inl h
  · exact .inr (.inl h)
  exact .inr (.inr (.inl h)))
 clear B;have key:∀ w1:World,Below (w.heap.size+2) (W0 a T.length cap w) w1->Hid (Below w.heap.size w w1):=fun w1 h=>(K5 a T.length cap w).trans (h.mono O0);by_cases k:Zd T=true;rotate_left
 · have C:Zd T=false:=by simpa using k
   clear l k;go_enter func124,ntmps124
   go_wp2_with fail
   refine (mG a cap T (W0 a T.length cap w) m n (Va p.out (K5 _ _ _ _))).mono ?_;rintro e w1 ⟨rfl,c⟩;rw [C];have b:Below (w.heap.size+2) (W0 a T.length cap w) w1:=by rw [Aa] at c;exact c
   obtain ⟨⟨q,y,x,u,t,s,r⟩,A⟩:=F6 b;go_wp2;obtain ⟨s0,j,g,f,s4,d⟩:=Ua (K8 b) (.bool false) (.int .i64 0) (.string ⟨#[]⟩) (.bool false) (.string ⟨#[]⟩) (.int .i64 0);refine K4 (v:=L6.v) (by simp [results,results124,go_sem,s0,j,g,f,s4,d,L6,TN.v]) rfl ⟨by rw [o.out],?_⟩;exact (key w1 b).out.trans (U4 O0 _ _ _ _ _ _)
 have z:300<arg.size\/14<nR.length:=by
  rcases l with h | h
  · rw [k] at h;cases h
  exact h
 clear l;by_cases xR:300<arg.size
 · clear z
   go_enter func124,ntmps124
   go_wp2_with fail
   refine (mG a cap T (W0 a T.length cap w) m n (Va p.out (K5 _ _ _ _))).mono ?_;rintro e w1 ⟨rfl,c⟩;rw [k];have b:Below (w.heap.size+2) (W0 a T.length cap w) w1:=by rw [Aa] at c;exact c
   obtain ⟨⟨q,y,x,u,t,s,r⟩,A⟩:=F6 b;go_wp2;obtain ⟨s0,j,g,f,s4,d⟩:=Ua (K8 b) (.bool false) (.int .i64 0) (.string ⟨#[]⟩) (.bool false) (.string ⟨#[]⟩) (.int .i64 0);refine K4 (v:=L6.v) (by simp [results,results124,go_sem,s0,j,g,f,s4,d,L6,TN.v]) rfl ⟨by rw [o.out],?_⟩;exact (key w1 b).out.trans (U4 O0 _ _ _ _ _ _)
 have h14:14<nR.length:=O0;clear z;go_enter func124,ntmps124
 go_wp2_with fail
 refine (mG a cap T (W0 a T.length cap w) m n (Va p.out (K5 _ _ _ _))).mono ?_;rintro e w1 ⟨rfl,c⟩;rw [k];have b:Below (w.heap.size+2) (W0 a T.length cap w) w1:=by rw [Aa] at c;exact c
 obtain ⟨⟨q,y,x,u,t,s,r⟩,A⟩:=F6 b;go_wp2;obtain ⟨s0,j,g,f,s4,d⟩:=Ua (K8 b) (.bool false) (.int .i64 0) (.string ⟨#[]⟩) (.bool false) (.string ⟨#[]⟩) (.int .i64 0);refine K4 (v:=L6.v) (by simp [results,results124,go_sem,s0,j,g,f,s4,d,L6,TN.v]) rfl ⟨by rw [o.out],?_⟩;exact (key w1 b).out.trans (U4 O0 _ _ _ _ _ _)
end Go.Proofs.YtdjaajjndfbpmaaGreatDoor
